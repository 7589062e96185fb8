"""Points 37 to 40: papers of runs that never end."""

import unittest
from random import Random

from tests.alike import equal, some_program, some_side, some_tape, some_turing, some_values
from tests.samples import Countdown, left_deep, right_deep
from translatory.binarytapes import TuringToBinary
from translatory.chains import Chain
from translatory.combinators import Combinators, parse_term
from translatory.countertapes import CountersToTuring
from translatory.errors import BadArgument, NotFitting, TooLarge
from translatory.fractionrun import FractionsToRegisters, RegistersToFractions
from translatory.fractions import Fractions
from translatory.papers import carried, find_paper, is_paper, judge
from translatory.registers import Registers, adding
from translatory.running import history
from translatory.strings import Strings
from translatory.stringtapes import TuringToStrings
from translatory.tags import Tags
from translatory.tagtapes import TagsToTuring, TuringToTags
from translatory.tapenumbers import TuringToRegisters
from translatory.turing import Turing
from translatory.twocounters import RegistersToCounters
from translatory.universal import ToUniversal
from translatory.withouti import WithoutI

BLANK_TAPE = (0, (), 0, ())
RIGHTWARD = Turing(1, 2, [(0, 0, 1, 1, 0)])
LEFTWARD = Turing(1, 2, [(0, 0, 1, -1, 0)])
# Two states that stay for ever, one after the other.
BLINKING = Turing(2, 2, [(0, 0, 0, 0, 1), (1, 0, 0, 0, 0)])
ENDLESS = Registers(1, [("inc", 0, 0)])
GROWING = parse_term("S(SS)(SS)(S(SS)(SS))(SS)(SII)")


class Circle:
    """Goes round three configurations, which are made anew each time."""

    def __init__(self, make):
        self.make = make

    def step(self, configuration):
        letters = "SKIS"
        for index in range(3):
            if equal(configuration, self.make(letters[index])):
                return self.make(letters[index + 1])


class Flipping:
    """Goes to and fro between two configurations."""

    def __init__(self, one, other):
        self.one = one
        self.other = other

    def step(self, configuration):
        return self.other if configuration == self.one else self.one


def cells_of(configuration, head):
    """The symbols of all cells that are not blank, by their numbers."""
    _, left, here, right = configuration
    found = {head: here}
    found.update({head - 1 - index: symbol for index, symbol in enumerate(left)})
    found.update({head + 1 + index: symbol for index, symbol in enumerate(right)})
    return found


def is_right_shift(machine, run):
    """What point 37 says of "shift" for the first and the last configuration of a run."""
    heads = [0]
    for state, _, here, _ in run[:-1]:
        heads.append(heads[-1] + machine.rule(state, here)[1])
    moved, low, high = heads[-1], min(heads), max(heads)
    one, other = cells_of(run[0], 0), cells_of(run[-1], moved)
    numbers = [*one, *other, low, high]
    cells = range(min(numbers) - abs(moved) - 1, max(numbers) + abs(moved) + 2)
    if moved == 0:
        cells = range(low, high + 1)
    elif moved > 0:
        cells = [cell for cell in cells if cell >= low]
    else:
        cells = [cell for cell in cells if cell <= high]
    return run[0][0] == run[-1][0] and all(one.get(cell, 0) == other.get(cell + moved, 0) for cell in cells)


def is_right_growth(machine, run):
    """What point 37 says of "growth" for the first and the last configuration of a run."""
    (place, values), (last_place, last_values) = run[0], run[-1]
    if place != last_place or any(last < value for value, last in zip(values, last_values)):
        return False
    for place, before in run[:-1]:
        instruction = machine.instructions[place]
        if instruction[0] == "dec" and before[instruction[1]] == 0:
            if values[instruction[1]] != last_values[instruction[1]]:
                return False
    return True


def is_right(machine, configuration, paper):
    """What point 37 says of a paper."""
    kind, first, second = paper
    if not 0 <= first < second:
        return False
    run = history(machine, configuration, second)
    if len(run) <= second:
        return False
    if kind == "shift":
        return isinstance(machine, Turing) and is_right_shift(machine, run[first:])
    if kind == "growth":
        return isinstance(machine, Registers) and is_right_growth(machine, run[first:])
    return equal(run[first], run[second])


def all_papers(limit):
    """All papers in the order in which they are to be found."""
    return [(kind, first, second) for second in range(limit + 1) for first in range(second)
            for kind in ("repeat", "growth", "shift")]


def first_paper(machine, configuration, limit):
    return next((paper for paper in all_papers(limit) if is_right(machine, configuration, paper)), None)


class PaperTest(unittest.TestCase):
    def right(self, machine, configuration, *papers):
        for paper in papers:
            self.assertTrue(is_right(machine, configuration, paper), paper)
            self.assertIs(is_paper(machine, configuration, paper), True, paper)

    def wrong(self, machine, configuration, *papers):
        for paper in papers:
            self.assertFalse(is_right(machine, configuration, paper), paper)
            self.assertIs(is_paper(machine, configuration, paper), False, paper)


class RepeatTest(PaperTest):
    def test_each_kind_of_machine(self):
        self.right(BLINKING, BLANK_TAPE, ("repeat", 0, 2), ("repeat", 1, 3), ("repeat", 2, 8))
        self.wrong(BLINKING, BLANK_TAPE, ("repeat", 0, 1), ("repeat", 1, 2), ("repeat", 0, 7))
        program = Registers(1, [("inc", 0, 1), ("inc", 0, 2), ("dec", 0, 1, 0)])
        self.right(program, (0, (0,)), ("repeat", 1, 3), ("repeat", 2, 6))
        self.wrong(program, (0, (0,)), ("repeat", 0, 2), ("repeat", 0, 3), ("repeat", 1, 2))
        self.right(Fractions([(3, 2), (2, 3)]), 2, ("repeat", 0, 2), ("repeat", 1, 3))
        self.wrong(Fractions([(3, 2), (2, 3)]), 2, ("repeat", 0, 1))
        self.right(Tags([(0, 0)]), (0, 0), ("repeat", 0, 1), ("repeat", 4, 9))
        self.wrong(Tags([(0, 0, 0)]), (0, 0), ("repeat", 0, 1), ("repeat", 2, 9))
        self.right(Strings([((0,), (1,)), ((1,), (0,))]), (0, 0), ("repeat", 2, 4), ("repeat", 3, 9))
        self.wrong(Strings([((0,), (1,)), ((1,), (0,))]), (0, 0), ("repeat", 0, 2), ("repeat", 1, 3))
        self.wrong(Combinators("SI"), parse_term("SII(SII)"), ("repeat", 0, 1), ("repeat", 0, 3), ("repeat", 2, 5))

    def test_machines_with_other_configurations(self):
        for machine, begin in [(Circle(lambda letter: left_deep("S", letter, 9000)), left_deep("S", "K", 9000)),
                               (Circle(lambda letter: ("K", ((), letter), 7)), ("K", ((), "K"), 7)),
                               (Circle(str), "K")]:
            self.assertIs(is_paper(machine, begin, ("repeat", 0, 3)), True)
            self.assertIs(is_paper(machine, begin, ("repeat", 1, 4)), True)
            self.assertIs(is_paper(machine, begin, ("repeat", 0, 2)), False)
            self.assertIs(is_paper(machine, begin, ("growth", 0, 3)), False)
            self.assertEqual(find_paper(machine, begin, 9), ("repeat", 0, 3))
            self.assertEqual(judge(machine, begin, 2), ("open",))

    def test_tuples_are_not_taken_for_others(self):
        for one, other in [((1, (2,)), (1, 2)), (((1,), 2), (1, (2,))), (((), ()), ((),)), (((1, 2),), (1, 2)),
                           ((((),),), ((), ())), (("S", ("K", "I")), (("S", "K"), "I"))]:
            self.assertEqual(find_paper(Flipping(one, other), one, 9), ("repeat", 0, 2))

    def test_numbers(self):
        self.right(BLINKING, BLANK_TAPE, ("repeat", 0, 2))
        self.wrong(BLINKING, BLANK_TAPE, ("repeat", 2, 0), ("repeat", 2, 2), ("repeat", 0, 0), ("repeat", -2, 0),
                   ("repeat", -2, 2), ("repeat", -1, 1), ("repeat", 0, -2), ("repeat", -4, -2), ("repeat", 8, 2),
                   ("repeat", 10 ** 20, 2), ("repeat", -10 ** 20, 2), ("repeat", 0, -10 ** 20))

    def test_the_end_of_the_run(self):
        # A run of six steps that does not repeat.
        self.wrong(Countdown(), 6, ("repeat", 0, 6), ("repeat", 0, 7), ("repeat", 5, 6), ("repeat", 6, 7),
                   ("repeat", 7, 8), ("repeat", 99, 100))

    def test_great_numbers(self):
        for first, second in [(0, 100000), (99998, 100000)]:
            self.assertTrue(is_paper(BLINKING, BLANK_TAPE, ("repeat", first, second)))
        self.assertFalse(is_paper(BLINKING, BLANK_TAPE, ("repeat", 99999, 100000)))
        for first, second in [(0, 100001), (1, 100001), (100001, 100001), (100002, 100001), (-1, 100001),
                              (0, 10 ** 30)]:
            for kind in ("repeat", "shift", "growth"):
                for machine, configuration in [(BLINKING, BLANK_TAPE), (ENDLESS, (0, (0,))), (Countdown(), 3)]:
                    with self.assertRaises(BadArgument):
                        is_paper(machine, configuration, (kind, first, second))

    def test_what_a_step_raises(self):
        machine = Combinators("SI")
        steps = 0
        term = GROWING
        with self.assertRaises(TooLarge):
            while True:
                term = machine.step(term)
                steps += 1
        self.assertIs(is_paper(machine, GROWING, ("repeat", 0, steps)), False)
        self.assertIs(is_paper(machine, GROWING, ("repeat", 5, steps)), False)
        with self.assertRaises(TooLarge) as caught:
            is_paper(machine, GROWING, ("repeat", 0, steps + 1))
        self.assertEqual(caught.exception.limit, 20000)
        for kind in ("shift", "growth"):
            self.assertIs(is_paper(machine, GROWING, (kind, 0, steps + 1)), False)

    def test_terms_that_go_deep(self):
        machine = Combinators("SI")
        for term in (left_deep("S", "I", 9000), right_deep("S", "I", 9000)):
            whole = (("S", term), parse_term("S(SI)(SI)(S(SI)(SI))"))
            self.assertIs(is_paper(machine, whole, ("repeat", 0, 2)), False)
        self.assertIsNone(find_paper(machine, right_deep("S", "I", 9000), 300))


class KindTest(PaperTest):
    def test_kinds_that_do_not_belong(self):
        self.wrong(RIGHTWARD, BLANK_TAPE, ("growth", 0, 1), ("growth", 0, 2))
        self.wrong(BLINKING, BLANK_TAPE, ("growth", 0, 2))
        self.wrong(ENDLESS, (0, (0,)), ("shift", 0, 1))
        for machine, configuration in [(Fractions([(3, 2), (2, 3)]), 2), (Tags([(0, 0)]), (0, 0)),
                                       (Strings([((0,), (0,))]), (0,)), (Countdown(), 4)]:
            self.wrong(machine, configuration, ("shift", 0, 2), ("growth", 0, 2), ("shift", 0, 1), ("growth", 0, 1))


class GrowthTest(PaperTest):
    def test_right_ones(self):
        self.right(ENDLESS, (0, (5,)), ("growth", 0, 1), ("growth", 3, 9))
        self.wrong(ENDLESS, (0, (5,)), ("growth", 1, 1), ("growth", 1, 0), ("growth", -1, 1), ("repeat", 0, 1))
        machine = Registers(2, [("dec", 0, 1, 2), ("inc", 1, 0), ("inc", 0, 0)])
        self.right(machine, (0, (1, 0)), ("growth", 0, 4), ("growth", 2, 6))

    def test_another_place(self):
        program = Registers(1, [("inc", 0, 1), ("inc", 0, 0)])
        self.right(program, (0, (0,)), ("growth", 0, 2), ("growth", 1, 3))
        self.wrong(program, (0, (0,)), ("growth", 0, 1), ("growth", 0, 3))

    def test_a_register_with_less(self):
        program = Registers(2, [("dec", 1, 1, 0), ("inc", 0, 0)])
        self.wrong(program, (0, (0, 9)), ("growth", 0, 2), ("growth", 2, 6))
        # At the end register 1 is found empty again and again.
        self.right(program, (0, (0, 2)), ("growth", 4, 5))
        self.wrong(program, (0, (0, 2)), ("growth", 2, 4), ("growth", 2, 5), ("growth", 3, 5))

    def test_an_empty_register_that_grew(self):
        # Finds register 0 empty, and adds 1 to it; the second time it ends.
        program = Registers(1, [("dec", 0, 2, 1), ("inc", 0, 0), ("end",)])
        self.wrong(program, (0, (0,)), ("growth", 0, 2))
        # The other register may grow.
        program = Registers(2, [("dec", 0, 2, 1), ("inc", 1, 0), ("end",)])
        self.right(program, (0, (0, 0)), ("growth", 0, 2))

    def test_registers_that_are_found_empty_before_and_at_the_end(self):
        # At c(0) register 0 is found empty, and it grows then, for ever.
        program = Registers(1, [("dec", 0, 1, 1), ("inc", 0, 2), ("inc", 0, 1)])
        self.right(program, (0, (0,)), ("growth", 1, 3), ("growth", 2, 4))
        self.wrong(program, (0, (0,)), ("growth", 0, 2), ("growth", 0, 1))
        # What is found empty at c(j) does not count, but it is at c(i), too.
        program = Registers(2, [("dec", 1, 1, 1), ("inc", 0, 0)])
        self.right(program, (0, (0, 0)), ("growth", 0, 2), ("growth", 1, 3), ("growth", 1, 5))

    def test_beyond_the_end(self):
        self.wrong(adding(), (0, (0, 3)), ("growth", 0, 2), ("growth", 0, 7), ("growth", 0, 8), ("growth", 6, 7))

    def test_against_the_words_of_the_document(self):
        random = Random(37)
        for _ in range(300):
            program = some_program(random, random.randint(1, 3), random.randint(1, 5))
            begin = some_values(random, program, 3)
            for _ in range(40):
                paper = (random.choice(["growth", "repeat"]), random.randint(-1, 9), random.randint(-1, 12))
                self.assertEqual(is_paper(program, begin, paper), is_right(program, begin, paper), paper)


class ShiftTest(PaperTest):
    def test_right_ones(self):
        self.right(RIGHTWARD, BLANK_TAPE, ("shift", 0, 1), ("shift", 3, 9))
        self.right(LEFTWARD, BLANK_TAPE, ("shift", 0, 1), ("shift", 3, 9))
        self.right(BLINKING, BLANK_TAPE, ("shift", 0, 2), ("shift", 3, 5))
        self.wrong(RIGHTWARD, BLANK_TAPE, ("shift", 1, 1), ("shift", 1, 0), ("shift", -1, 1), ("repeat", 0, 1))

    def test_another_state(self):
        self.wrong(BLINKING, BLANK_TAPE, ("shift", 0, 1))
        two = Turing(2, 2, [(0, 0, 0, 1, 1), (1, 0, 0, 1, 0)])
        self.right(two, BLANK_TAPE, ("shift", 0, 2), ("repeat", 0, 2))
        self.wrong(two, BLANK_TAPE, ("shift", 0, 1), ("repeat", 0, 1))

    def test_beyond_the_end(self):
        machine = Turing(2, 2, [(0, 0, 1, 1, 0), (0, 1, 1, 1, 0)])
        self.right(machine, (0, (), 1, (1, 1)), ("shift", 3, 4))
        ending = Turing(1, 2, [(0, 1, 1, 1, 0)])
        self.wrong(ending, (0, (), 1, (1, 1, 1)), ("shift", 0, 3), ("shift", 0, 4), ("shift", 0, 5), ("shift", 4, 5))

    def test_cells_to_the_right_of_a_move_to_the_right(self):
        # All cells to the right count.
        for distance in (0, 1, 5, 40):
            self.wrong(RIGHTWARD, (0, (), 0, (0,) * distance + (1,)), ("shift", 0, 1))
            self.right(LEFTWARD, (0, (), 0, (0,) * distance + (1,)), ("shift", 0, 1))
            self.wrong(LEFTWARD, (0, (0,) * distance + (1,), 0, ()), ("shift", 0, 1))
            self.right(RIGHTWARD, (0, (0,) * distance + (1,), 0, ()), ("shift", 0, 1))

    def back_and_forth(self, back, way):
        """Goes `back` cells back and `back` + 1 forth, and writes what it finds."""
        states = 2 * back + 1
        return Turing(states, 2, [(state, symbol, symbol, -way if state < back else way, (state + 1) % states)
                                  for state in range(states) for symbol in (0, 1)])

    def test_cells_within_and_just_outside_those_that_count(self):
        # The cells from the least one of the head on are those that count.
        for back in (1, 2, 3):
            steps = 2 * back + 1
            for way in (1, -1):
                machine = self.back_and_forth(back, way)
                within = (0,) * (back - 1) + (1,)
                outside = (0,) * back + (1,)
                for side, check in [(within, self.wrong), (outside, self.right)]:
                    sides = (side, ()) if way == 1 else ((), side)
                    check(machine, (0, sides[0], 0, sides[1]), ("shift", 0, steps))

    def test_cells_of_a_head_that_comes_back(self):
        # Goes one cell to the right and two cells to the left of the first one, and comes back.
        path = [1, -1, -1, -1, 1, 1]
        for cell in range(-4, 4):
            rules = [(state, symbol, symbol, move, (state + 1) % 6)
                     for state, move in enumerate(path) for symbol in (0, 1)]
            self.right(Turing(6, 2, rules), BLANK_TAPE, ("shift", 0, 6))
            # A cell that is changed once: it is one of those that count if the head comes to it.
            heads = [0, 1, 0, -1, -2, -1]
            for state, head in enumerate(heads):
                if head == cell:
                    changing = [rule if rule[0] != state else (state, rule[1], 1, *rule[3:]) for rule in rules]
                    self.wrong(Turing(6, 2, changing), BLANK_TAPE, ("shift", 0, 6))
                    self.right(Turing(6, 2, changing), BLANK_TAPE, ("shift", 6, 12))
            side = (0,) * (abs(cell) - 1) + (1,)
            begin = (0, side if cell < 0 else (), 1 if cell == 0 else 0, side if cell > 0 else ())
            self.right(Turing(6, 2, rules), begin, ("shift", 0, 6), ("repeat", 0, 6))

    def test_a_cell_of_a_tape_that_stays(self):
        # From c(1) on the cell to the left is other than in c(0), outside of the cells that count.
        machine = Turing(3, 2, [(0, 0, 1, 1, 1), (1, 0, 0, 0, 2), (2, 0, 0, 0, 1)])
        self.right(machine, BLANK_TAPE, ("shift", 1, 3), ("repeat", 1, 3))
        self.wrong(machine, BLANK_TAPE, ("shift", 0, 2), ("shift", 0, 1))

    def test_against_the_words_of_the_document(self):
        random = Random(38)
        right = 0
        for _ in range(600):
            machine = some_turing(random, random.randint(1, 3), random.randint(2, 3))
            begin = some_tape(random, machine, 4)
            for _ in range(30):
                paper = (random.choice(["shift", "shift", "repeat"]), random.randint(-1, 9), random.randint(-1, 12))
                expected = is_right(machine, begin, paper)
                right += expected
                self.assertEqual(is_paper(machine, begin, paper), expected, paper)
        self.assertGreater(right, 300)


class FindTest(unittest.TestCase):
    def check(self, machine, configuration, limit):
        """Compares with trying all papers; returns what `judge` says."""
        expected = first_paper(machine, configuration, limit)
        self.assertEqual(find_paper(machine, configuration, limit), expected)
        run = history(machine, configuration, limit + 1)
        if len(run) <= limit + 1:
            self.assertIsNone(expected)
            told = ("ends", len(run) - 1)
        else:
            told = ("open",) if expected is None else ("loops", expected)
        self.assertEqual(judge(machine, configuration, limit), told)
        return told

    def test_turing_machines(self):
        random = Random(39)
        kinds = set()
        for _ in range(500):
            machine = some_turing(random, random.randint(1, 3), random.randint(2, 3))
            told = self.check(machine, some_tape(random, machine, 3), random.randint(0, 14))
            kinds.add(told[1][0] if told[0] == "loops" else told[0])
        self.assertEqual(kinds, {"repeat", "shift", "ends", "open"})

    def test_register_programs(self):
        random = Random(40)
        kinds = set()
        for _ in range(800):
            program = some_program(random, random.randint(1, 3), random.randint(1, 5))
            told = self.check(program, some_values(random, program, 3), random.randint(0, 14))
            kinds.add(told[1][0] if told[0] == "loops" else told[0])
        self.assertEqual(kinds, {"repeat", "growth", "ends", "open"})

    def test_other_machines(self):
        random = Random(41)
        for limit in range(10):
            for machine, configuration in [
                    (Fractions([(3, 2), (2, 3)]), 12), (Fractions([(5, 2), (2, 15), (3, 1)]), 2),
                    (Tags([(0, 0)]), (0, 0, 0)), (Tags([(1, 0), (0,)]), (0, 1, 1)), (Tags([(0, 0, 0)]), (0, 0)),
                    (Strings([((0,), (1,)), ((1,), (0,))]), (0, 0)), (Strings([((0,), (0, 0))]), (0,)),
                    (Combinators("SI"), parse_term("SII(SII)")), (Combinators("SKI"), parse_term("SII(S(K(SI))I)")),
                    (Combinators("KI"), parse_term("K(II)(II)")), (Countdown(), 5)]:
                self.check(machine, configuration, limit)
        for _ in range(100):
            symbols = random.randint(1, 3)
            machine = Tags([tuple(random.randrange(symbols) for _ in range(random.randint(0, 4)))
                            for _ in range(symbols)])
            word = tuple(random.randrange(symbols) for _ in range(random.randint(0, 5)))
            self.check(machine, word, random.randint(0, 14))

    def test_the_least_second_number(self):
        program = Registers(1, [("inc", 0, 1), ("inc", 0, 2), ("dec", 0, 1, 0)])
        self.assertEqual(find_paper(program, (0, (0,)), 300), ("repeat", 1, 3))
        self.assertIsNone(find_paper(program, (0, (0,)), 2))

    def test_the_least_first_number(self):
        # At the fourth step both the blank tape comes again, and all that went before is like it.
        machine = Turing(1, 2, [(0, 0, 0, 1, 0)])
        self.assertEqual(find_paper(machine, (0, (1,), 0, ()), 9), ("shift", 0, 1))
        # The shift from c(0) comes before the repeat from c(1).
        machine = Turing(3, 2, [(0, 0, 0, 0, 1), (1, 0, 0, 0, 0)])
        self.assertEqual(find_paper(machine, BLANK_TAPE, 9), ("repeat", 0, 2))

    def test_repeat_comes_before_others(self):
        self.assertEqual(find_paper(Turing(1, 2, [(0, 0, 0, 1, 0)]), BLANK_TAPE, 9), ("repeat", 0, 1))
        self.assertEqual(find_paper(Registers(1, [("dec", 0, 0, 0)]), (0, (0,)), 9), ("repeat", 0, 1))

    def test_limits(self):
        for limit in (0, 300):
            self.assertIsNone(find_paper(Countdown(), 5, limit))
        for limit in (-1, 301, -300, 10 ** 9):
            for called in (find_paper, judge):
                for machine, configuration in [(Countdown(), 5), (BLINKING, BLANK_TAPE), (ENDLESS, (0, (0,)))]:
                    with self.assertRaises(BadArgument):
                        called(machine, configuration, limit)

    def test_a_run_that_ends_within_or_just_beyond_the_limit(self):
        for machine, begin in [(Countdown(), 7), (adding(), (0, (1, 3))), (Combinators("I"), left_deep("I", "I", 7)),
                               (Turing(1, 2, [(0, 1, 1, 1, 0)]), (0, (), 1, (1,) * 6)), (Fractions([(1, 2)]), 128)]:
            steps = len(history(machine, begin, 99)) - 1
            self.assertEqual(steps, 7)
            self.assertEqual(judge(machine, begin, 7), ("ends", 7))
            self.assertEqual(judge(machine, begin, 300), ("ends", 7))
            self.assertNotEqual(judge(machine, begin, 6)[0], "ends")
        self.assertEqual(judge(Countdown(), 300, 300), ("ends", 300))
        self.assertEqual(judge(Countdown(), 301, 300), ("open",))
        self.assertEqual(judge(Countdown(), 0, 0), ("ends", 0))
        self.assertEqual(judge(Countdown(), 1, 0), ("open",))

    def test_papers_up_to_the_greatest_limit(self):
        # Comes again at the first place after 300 steps, or after 301.
        for places, found in [(300, ("repeat", 0, 300)), (301, None)]:
            program = Registers(1, [("dec", 0, place, place) for place in [*range(1, places), 0]])
            self.assertEqual(find_paper(program, (0, (0,)), 300), found)
            self.assertEqual(judge(program, (0, (0,)), 300), ("open",) if found is None else ("loops", found))
            self.assertIsNone(find_paper(program, (0, (0,)), 299))

    def test_a_run_that_ends_has_no_right_paper(self):
        random = Random(42)
        ends = 0
        for _ in range(400):
            machine = some_turing(random, 3, 2)
            begin = (0, some_side(random, machine, 3), 1, some_side(random, machine, 3))
            if judge(machine, begin, 30)[0] == "ends":
                ends += 1
                self.assertFalse(any(is_paper(machine, begin, paper) for paper in all_papers(8)))
        self.assertGreater(ends, 50)

    def test_what_is_found_is_right(self):
        random = Random(43)
        for _ in range(60):
            machine = some_turing(random, 4, 2)
            begin = some_tape(random, machine, 3)
            paper = find_paper(machine, begin, 300)
            if paper is not None:
                self.assertTrue(is_paper(machine, begin, paper))
                self.assertTrue(is_right(machine, begin, paper))

    def test_what_a_step_raises(self):
        self.assertEqual(judge(Combinators("SI"), GROWING, 9), ("open",))
        term = GROWING
        for _ in range(700):
            term = Combinators("SI").step(term)
        for called in (judge, find_paper):
            with self.assertRaises(TooLarge):
                called(Combinators("SI"), term, 300)

    def test_the_examples_of_the_interface(self):
        self.assertEqual(judge(RIGHTWARD, BLANK_TAPE, 10), ("loops", ("shift", 0, 1)))
        machine = Registers(2, [("dec", 0, 1, 2), ("inc", 1, 0), ("inc", 0, 0)])
        self.assertEqual(judge(machine, (0, (1, 0)), 10), ("loops", ("growth", 0, 4)))


class CarriedTest(unittest.TestCase):
    def check(self, translation, configuration):
        """Carries all right papers up to 8; returns how many there are."""
        costs = []
        place = configuration
        for _ in range(8):
            following = translation.source.step(place)
            if following is None:
                break
            costs.append(translation.cost(place))
            place = following
        found = 0
        for paper in all_papers(8):
            if paper[0] == "repeat" and is_right(translation.source, configuration, paper):
                found += 1
                expected = ("repeat", sum(costs[:paper[1]]), sum(costs[:paper[2]]))
                self.assertEqual(carried(translation, configuration, paper), expected)
                if expected[2] <= 5000:
                    self.assertTrue(is_paper(translation.target, translation.picture(configuration), expected))
            else:
                with self.assertRaises(NotFitting):
                    carried(translation, configuration, paper)
        return found

    def test_turing_machines(self):
        random = Random(44)
        for make, symbols, states in [(TuringToRegisters, 3, 3), (TuringToBinary, 3, 3), (TuringToTags, 2, 3),
                                      (ToUniversal, 2, 3), (TuringToRegisters, 2, 2)]:
            found = 0
            for _ in range(60):
                machine = some_turing(random, states, symbols)
                found += self.check(make(machine), some_tape(random, machine, 2)) > 0
            self.assertGreater(found, 5)

    def test_register_programs(self):
        random = Random(45)
        for make, count in [(RegistersToCounters, 2), (CountersToTuring, 2), (RegistersToFractions, 3)]:
            found = 0
            for _ in range(60):
                program = some_program(random, count, 4)
                found += self.check(make(program), some_values(random, program, 2)) > 0
            self.assertGreater(found, 5)

    def test_others(self):
        self.assertGreater(self.check(FractionsToRegisters(Fractions([(3, 2), (5, 3), (2, 5)])), 12), 0)
        self.assertGreater(self.check(TagsToTuring(Tags([(0, 1), (1,), None])), (0, 1, 0, 2)), 0)
        self.assertGreater(self.check(TagsToTuring(Tags([(0, 0)])), (0, 0, 0)), 0)

    def test_terms_do_not_repeat(self):
        for text in ["SII(SII)", "S(SI)I(S(SI)I)(S(SI)I)"]:
            self.assertEqual(self.check(WithoutI(Combinators("SI")), parse_term(text)), 0)

    def test_chains(self):
        machine = Turing(3, 3, [(0, 0, 2, 1, 1), (1, 0, 1, 0, 2), (2, 1, 0, -1, 2), (2, 2, 0, 1, 1), (2, 0, 2, 1, 1)])
        first = TuringToBinary(machine)
        self.assertGreater(self.check(Chain([first, ToUniversal(first.target)]), BLANK_TAPE), 0)
        program = Registers(2, [("inc", 0, 1), ("dec", 0, 2, 0), ("inc", 1, 3), ("dec", 1, 0, 0)])
        into = RegistersToFractions(program)
        self.assertGreater(self.check(Chain([into, FractionsToRegisters(into.target)]), (0, (1, 2))), 0)

    def test_costs_above_100000(self):
        program = Registers(2, [("inc", 0, 1), ("dec", 0, 0, 0)])
        translation = RegistersToCounters(program)
        begin = (0, (6, 6))
        costs = [translation.cost(begin), translation.cost((1, (7, 6)))]
        paper = carried(translation, begin, ("repeat", 2, 4))
        self.assertEqual(paper, ("repeat", sum(costs), 2 * sum(costs)))
        self.assertGreater(paper[1], 100000)
        place = last_place = translation.picture(begin)
        for _ in range(sum(costs)):
            place = translation.target.step(place)
        self.assertEqual(place, last_place)
        self.assertEqual(carried(translation, begin, ("repeat", 0, 100000)), ("repeat", 0, 50000 * sum(costs)))

    def test_papers_that_do_not_fit(self):
        translation = TuringToBinary(BLINKING)
        self.assertEqual(carried(translation, BLANK_TAPE, ("repeat", 0, 2)), ("repeat", 0, 2))
        for paper in [("repeat", 0, 1), ("repeat", 2, 2), ("repeat", 2, 0), ("repeat", -2, 2), ("repeat", 0, -2),
                      ("shift", 0, 2), ("growth", 0, 2), ("shift", 0, 100001), ("growth", 0, 100001),
                      ("repeat", 100001, 100001), ("repeat", 100002, 100001), ("repeat", -2, 100002)]:
            with self.assertRaises(NotFitting):
                carried(translation, BLANK_TAPE, paper)
        with self.assertRaises(NotFitting):
            carried(TuringToBinary(Turing(2, 2, [])), BLANK_TAPE, ("repeat", 0, 1))
        with self.assertRaises(NotFitting):
            carried(CountersToTuring(Registers(2, [("inc", 0, 0)])), (0, (0, 0)), ("growth", 0, 1))
        for first, second in [(0, 100001), (0, 100002), (99999, 100001), (3, 10 ** 20)]:
            with self.assertRaises(BadArgument):
                carried(translation, BLANK_TAPE, ("repeat", first, second))

    def test_string_systems(self):
        translation = TuringToStrings(BLINKING)
        chain = Chain([TuringToBinary(BLINKING), TuringToStrings(TuringToBinary(BLINKING).target)])
        for into_strings in (translation, chain):
            for paper in [("repeat", 0, 2), ("repeat", 0, 1), ("repeat", 0, 100001), ("shift", 0, 2)]:
                with self.assertRaises(NotFitting):
                    carried(into_strings, BLANK_TAPE, paper)

    def test_what_a_step_raises(self):
        with self.assertRaises(TooLarge):
            carried(WithoutI(Combinators("SI")), GROWING, ("repeat", 0, 5000))
