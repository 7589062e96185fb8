"""Points 27 and 28: Turing machines as tag systems, and tag systems as Turing machines."""

import unittest
from random import Random

from tests.alike import check_alike, check_tapes, some_tape, some_turing, turing_of_size
from translatory.chains import Chain
from translatory.combinators import Combinators
from translatory.errors import NotFitting, TooLarge
from translatory.following import answer_through, is_same_run, stands_at, total_cost
from translatory.fractions import Fractions
from translatory.registers import adding
from translatory.running import history, last
from translatory.strings import Strings
from translatory.tags import Tags
from translatory.tagtapes import TagsToTuring, TuringToTags
from translatory.turing import Turing, content, number_of, start, symbols_of


def letters(translation, state, here):
    """The symbols a, b, c, d and x of a state and a symbol."""
    word = translation.picture((state, (1,), here, (1,)))
    return word[0], word[2], word[4], word[6], word[1]


class MachinePictureTest(unittest.TestCase):
    def test_the_example_of_the_interface(self):
        translation = TuringToTags(Turing(1, 2, [(0, 1, 1, -1, 0)]))
        self.assertEqual(len(translation.picture((0, (0, 1), 1, (1, 1)))), 14)

    def test_letter_by_letter(self):
        random = Random(12)
        translation = TuringToTags(some_turing(random, 4, 2))
        for _ in range(60):
            configuration = some_tape(random, translation.source, 5)
            state, left, here, right = configuration
            a, b, c, d, x = letters(translation, state, here)
            word = ((a, x) + (b, x) * number_of(left, 2) + (c, x) + (d, x) * number_of(right, 2))
            self.assertEqual(translation.picture(configuration), word)
            self.assertEqual(translation.read_back(word), configuration)

    def test_the_symbols_are_different(self):
        # Some states and symbols have no rule here.
        for machine in [turing_of_size(5, 2), Turing(5, 2, []), Turing(5, 2, [(1, 1, 0, 1, 1)])]:
            translation = TuringToTags(machine)
            found = [letters(translation, state, here) for state in range(5) for here in (0, 1)]
            self.assertEqual(len({five[4] for five in found}), 1)
            symbols = [symbol for five in found for symbol in five[:4]] + [found[0][4]]
            self.assertEqual(len(set(symbols)), 41)
            self.assertTrue(all(0 <= symbol < len(translation.target.productions) for symbol in symbols))

    def test_the_largest_sum(self):
        translation = TuringToTags(turing_of_size(2, 2))
        for left, right in [(100000, 0), (0, 100000), (50000, 50000), (99999, 1)]:
            configuration = (1, symbols_of(left, 2), 0, symbols_of(right, 2))
            word = translation.picture(configuration)
            self.assertEqual(len(word), 200004)
            self.assertEqual(translation.read_back(word), configuration)
        for left, right in [(100001, 0), (0, 100001), (50000, 50001), (2 ** 500, 0)]:
            with self.assertRaises(TooLarge) as caught:
                translation.picture((1, symbols_of(left, 2), 0, symbols_of(right, 2)))
            self.assertEqual(caught.exception.limit, 100000)

    def test_fields(self):
        translation = TuringToTags(turing_of_size(3, 2))
        self.assertEqual(translation.source, turing_of_size(3, 2))
        self.assertEqual(translation.target, TuringToTags(turing_of_size(3, 2)).target)


class MachineRunTest(unittest.TestCase):
    def test_small_machines(self):
        check_tapes(self, TuringToTags, [(states, 2) for states in range(1, 6)] * 12, steps=6, longest=5)

    def test_all_moves_and_both_ends_with_odd_and_even_numbers(self):
        for written in (0, 1):
            for move in (-1, 0, 1):
                machine = Turing(2, 2, [(0, 0, written, move, 1), (0, 1, written, move, 1)])
                translation = TuringToTags(machine)
                for left in range(6):
                    for right in range(6):
                        for here in (0, 1):
                            configuration = (0, symbols_of(left, 2), here, symbols_of(right, 2))
                            self.assertEqual(check_alike(self, translation, configuration, 3), 1)

    def test_an_end_at_once(self):
        translation = TuringToTags(Turing(2, 2, [(0, 1, 0, 1, 0)]))
        for configuration in [(1, (1,), 1, (1,)), (1, (), 0, ()), (0, (), 0, (1,))]:
            self.assertEqual(check_alike(self, translation, configuration, 3), 0)

    def test_following(self):
        random = Random(13)
        for _ in range(20):
            machine = some_turing(random, 3, 2)
            begin = some_tape(random, machine, 4)
            for count in (0, 2, 6):
                self.assertTrue(is_same_run(TuringToTags(machine), begin, count))

    def test_the_answer(self):
        machine = Turing(2, 2, [(0, 1, 0, 1, 0), (0, 0, 1, -1, 1)])
        translation = TuringToTags(machine)
        begin = start((1, 1, 1))
        self.assertEqual(answer_through(translation, begin, total_cost(translation, begin, 9)),
                         last(machine, begin, 9))
        self.assertEqual(stands_at(translation, begin, 2),
                         translation.picture(history(machine, begin, 2)[-1]))

    def test_a_refused_picture(self):
        translation = TuringToTags(Turing(1, 2, [(0, 1, 1, 1, 0)]))
        with self.assertRaises(TooLarge):
            is_same_run(translation, (0, symbols_of(60000, 2), 1, ()), 1)


class MachineFittingTest(unittest.TestCase):
    def test_the_largest(self):
        translation = TuringToTags(turing_of_size(400, 2))
        check_alike(self, translation, (399, (1, 1), 1, (0, 1)), 6)

    def test_the_largest_with_a_single_direction(self):
        for move in (-1, 1):
            machine = Turing(400, 2, [(state, symbol, 1, move, (state + 7 * symbol + 1) % 400)
                                      for state in range(400) for symbol in (0, 1)])
            check_alike(self, TuringToTags(machine), (398, (1, 0, 1), 1, (0, 1)), 3)

    def test_both_directions_into_each_state(self):
        machine = Turing(400, 2, [(state, symbol, symbol, 2 * symbol - 1, state)
                                  for state in range(400) for symbol in (0, 1)])
        check_alike(self, TuringToTags(machine), (398, (1, 0, 1), 1, (0, 1)), 3)

    def test_others(self):
        for machine in [turing_of_size(401, 2), turing_of_size(1, 3), Turing(1, 4, []), adding(),
                        Fractions([]), Tags([]), Strings([]), Combinators("SK")]:
            with self.assertRaises(NotFitting):
                TuringToTags(machine)


def some_system(random, symbols, longest):
    """A tag system with some productions that are empty, and some that there are not."""
    productions = []
    for _ in range(symbols):
        length = random.randrange(-1, longest + 1)
        production = tuple(random.randrange(symbols) for _ in range(length))
        productions.append(None if length < 0 else production)
    return Tags(productions)


class WordPictureTest(unittest.TestCase):
    def test_the_word_stands_on_the_tape(self):
        translation = TagsToTuring(Tags([(1, 1), None, (0,)]))
        for word in [(), (0,), (2, 1), (0, 2, 0, 0), (2,) * 50]:
            picture = translation.picture(word)
            self.assertEqual(picture, start(tuple(symbol + 1 for symbol in word)))
            self.assertEqual(picture[0], 0)
            self.assertEqual(content(picture), tuple(symbol + 1 for symbol in word))
            self.assertTrue(translation.target.is_configuration(picture))
            self.assertEqual(translation.read_back(picture), word)

    def test_fields(self):
        machine = Tags([(1, 1), None])
        self.assertEqual(TagsToTuring(machine).source, machine)
        self.assertEqual(TagsToTuring(machine).target, TagsToTuring(machine).target)


class WordRunTest(unittest.TestCase):
    def test_small_systems(self):
        random = Random(14)
        for symbols in range(1, 6):
            for longest in range(4):
                for _ in range(6):
                    translation = TagsToTuring(some_system(random, symbols, longest))
                    for length in range(7):
                        word = tuple(random.randrange(symbols) for _ in range(length))
                        check_alike(self, translation, word, 12)
                        self.assertTrue(is_same_run(translation, word, 12))

    def test_short_words(self):
        translation = TagsToTuring(Tags([(), None, (0, 1), (3,)]))
        for length in range(4):
            for number in range(4 ** length):
                word = tuple(number // 4 ** index % 4 for index in range(length))
                check_alike(self, translation, word, 9)

    def test_empty_productions(self):
        translation = TagsToTuring(Tags([()]))
        for length in range(9):
            self.assertEqual(check_alike(self, translation, (0,) * length, 9), length // 2)

    def test_long_productions(self):
        translation = TagsToTuring(Tags([(1, 0, 2) * 30, None, ()]))
        check_alike(self, translation, (0, 1, 2, 2), 5)

    def test_no_symbols(self):
        translation = TagsToTuring(Tags([]))
        self.assertEqual(check_alike(self, translation, (), 5), 0)
        self.assertEqual(answer_through(translation, (), 0), ())

    def test_the_answer(self):
        machine = Tags([(1, 1), None, (0,)])
        translation = TagsToTuring(machine)
        steps = total_cost(translation, (0, 2, 0, 0), 9)
        self.assertEqual(answer_through(translation, (0, 2, 0, 0), steps), (1, 1, 1, 1))
        self.assertEqual(stands_at(translation, (0, 2, 0, 0), 1), translation.picture((0, 0, 1, 1)))
        self.assertEqual(answer_through(translation, (0,), 1), (0,))


class WordFittingTest(unittest.TestCase):
    def test_the_largest(self):
        translation = TagsToTuring(Tags([(299,) * 16] * 200 + [None] + [(1, 299) * 9] * 98 + [(0,) * 36]))
        check_alike(self, translation, (299, 3, 1, 200), 5)

    def test_one_production_of_5000(self):
        check_alike(self, TagsToTuring(Tags([(1,) * 5000, None])), (0, 0), 2)

    def test_others(self):
        for machine in [Tags([None] * 301), Tags([(0,) * 5001]), Tags([(0,) * 2500, (0,) * 2501, None]),
                        Turing(1, 2, []), adding(), Fractions([]), Strings([]), Combinators("SK")]:
            with self.assertRaises(NotFitting):
                TagsToTuring(machine)


class ThereAndBackTest(unittest.TestCase):
    """Turing machines as tag systems, and these as Turing machines."""

    def test_a_few_steps(self):
        random = Random(15)
        for _ in range(8):
            first = TuringToTags(some_turing(random, 2, 2))
            chain = Chain([first, TagsToTuring(first.target)])
            for _ in range(3):
                begin = some_tape(random, first.source, 3)
                check_alike(self, chain, begin, 3)
                self.assertTrue(is_same_run(chain, begin, 3))
