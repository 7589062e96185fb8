"""Points 1 and 2: what is promised over the whole program."""

import sys
import unittest

from tests.functions import ADD, DEEPEST, of_count
from tests.samples import Stretched, left_deep, right_deep
from translatory import errors
from translatory.binarytapes import TuringToBinary
from translatory.census import census
from translatory.chains import Chain
from translatory.combinators import (
    Combinators, abstraction, parse_term, put, show_term, size, variables,
)
from translatory.compiling import Compiled
from translatory.configtext import format_configuration, parse_configuration
from translatory.countertapes import CountersToTuring
from translatory.following import answer_through, is_same_run, total_cost
from translatory.fractionrun import FractionsToRegisters, RegistersToFractions, own_primes
from translatory.fractions import Fractions, primes
from translatory.machinetext import format_machine, parse_machine
from translatory.papers import carried, find_paper, is_paper, judge
from translatory.recursive import value
from translatory.registers import Registers, adding
from translatory.running import history, last
from translatory.sessions import hold
from translatory.strings import Strings
from translatory.stringtapes import TuringToStrings
from translatory.tags import Tags
from translatory.tagtapes import TagsToTuring, TuringToTags
from translatory.tapenumbers import TuringToRegisters
from translatory.turing import Turing, start
from translatory.twocounters import RegistersToCounters
from translatory.unary import unary, unary_value
from translatory.universal import ToUniversal
from translatory.withouti import WithoutI

DEEP = 9000


class ErrorClassTest(unittest.TestCase):
    def test_each_is_a_subclass_of_the_base_and_of_no_other_one(self):
        found = [thing for thing in vars(errors).values() if isinstance(thing, type)]
        self.assertEqual(len(found), 8)
        for one in found:
            self.assertTrue(issubclass(one, errors.TranslatoryError))
            self.assertTrue(issubclass(one, ValueError))
            for other in found:
                is_base = other in (one, errors.TranslatoryError)
                self.assertEqual(issubclass(one, other), is_base, (one, other))


class ArgumentTest(unittest.TestCase):
    def test_lists_are_copied_and_stay_as_they_were(self):
        for make, rows, more, field in [
                (lambda rows: Turing(2, 2, rows), [(1, 1, 0, 1, 0), (0, 0, 1, 1, 1)], (0, 1, 1, 1, 1), "rules"),
                (lambda rows: Registers(2, rows), [("inc", 0, 1), ("end",)], ("inc", 1, 0), "instructions"),
                (Fractions, [(3, 2), (5, 3)], (7, 5), "pairs"),
                (Tags, [(1,), None], (0,), "productions"),
                (Strings, [((1,), (2,))], ((2,), (3,)), "rules")]:
            passed = list(rows)
            machine = make(passed)
            self.assertEqual(passed, rows)
            before = getattr(machine, field)
            self.assertIsInstance(before, tuple)
            passed.append(more)
            passed[0] = more
            self.assertEqual(getattr(machine, field), before)
            self.assertEqual(machine, make(rows))
            self.assertNotEqual(machine, make(rows + [more]))

    def test_the_list_of_a_chain(self):
        translations = [TuringToBinary(Turing(1, 3, [])), ToUniversal(TuringToBinary(Turing(1, 3, [])).target)]
        passed = list(translations)
        chain = Chain(passed)
        self.assertEqual(passed, translations)
        passed.clear()
        self.assertEqual(chain.picture((0, (), 2, ())), translations[1].picture(translations[0].picture((0, (), 2, ()))))

    def test_returned_lists_are_new(self):
        machine = Fractions([(3, 2), (5, 3)])
        for call in (lambda: history(machine, 12, 2), lambda: primes(5), lambda: own_primes(machine),
                     lambda: variables(("x", "y")), lambda: hold("x\ny")):
            found = call()
            self.assertIsInstance(found, list)
            before = list(found)
            found.append(None)
            found[0] = None
            self.assertEqual(call(), before)

    def test_machines_of_different_kinds_are_different(self):
        machines = [Turing(1, 2, []), Registers(1, [("end",)]), Fractions([]), Tags([]), Strings([]), Combinators("S")]
        for one in machines:
            for other in machines:
                self.assertEqual(one == other, one is other)
        self.assertFalse(Fractions([(3, 2)]) == Strings([((3,), (2,))]))

    def test_targets_are_the_same_each_time(self):
        tape = Turing(3, 2, [(0, 0, 1, 1, 1), (1, 0, 1, -1, 2), (2, 1, 1, 0, 1)])
        program = adding()
        for make, machine in [(TuringToRegisters, tape), (TuringToBinary, tape), (TuringToTags, tape),
                              (TuringToStrings, tape), (ToUniversal, tape), (RegistersToCounters, program),
                              (CountersToTuring, program), (RegistersToFractions, program),
                              (FractionsToRegisters, Fractions([(3, 2)])), (TagsToTuring, Tags([(0,)])),
                              (WithoutI, Combinators("SI"))]:
            self.assertEqual(make(machine).target, make(machine).target)
            self.assertIs(make(machine).source, machine)
        self.assertEqual(Compiled(ADD).machine, Compiled(ADD).machine)


class DepthTest(unittest.TestCase):
    """Everything here is done with few calls within each other left."""

    def setUp(self):
        depth = 0
        frame = sys._getframe()
        while frame is not None:
            depth += 1
            frame = frame.f_back
        self.addCleanup(sys.setrecursionlimit, sys.getrecursionlimit())
        sys.setrecursionlimit(depth + 150)

    def test_deep_terms(self):
        machine = Combinators("SKI")
        for make in (left_deep, right_deep):
            term = make("S", "K", DEEP)
            text = show_term(term)
            self.assertEqual(len(text), DEEP + 1 if make is left_deep else 3 * DEEP - 1)
            self.assertTrue(show_term(parse_term(text)) == text)
            self.assertEqual(size(term), DEEP + 1)
            self.assertEqual(variables(make("x", "y", DEEP)), ["x", "y"])
            self.assertTrue(show_term(put("x", "S", make("x", "K", DEEP))) == text)
            self.assertEqual(size(abstraction("x", term)), DEEP + 2)
            self.assertTrue(format_configuration(machine, parse_configuration(machine, text)) == text)
            history(machine, term, 3)
            judge(machine, term, 3)
            find_paper(machine, term, 3)
            is_paper(machine, term, ("repeat", 0, 1))
            unary_value(("K", ("K", term)), 100000)
            hold(f"load\ncombinators SKI\n.\nset {text}\nshow\nrun 9\njudge 2\nto sk")
        translation = WithoutI(Combinators("SI"))
        for term in (left_deep("I", "S", 6000), right_deep("S", ("I", "S"), 6000)):
            self.assertTrue(is_same_run(translation, term, 2))
            total_cost(translation, term, 2)
        self.assertEqual(unary_value(unary(1000), 10000), 1000)

    def test_long_words_and_runs(self):
        word = (0, 1) * 20000
        self.assertLess(len(last(Tags([(1,), ()]), word, 10 ** 6)), 2)
        self.assertEqual(len(history(Strings([((0, 1), (1,))]), word, 5)[-1]), 39995)
        self.assertEqual(last(Registers(1, [("dec", 0, 0, 1), ("end",)]), (0, (50000,)), 10 ** 6), (1, (0,)))
        self.assertEqual(last(Fractions([(1, 2)]), 2 ** 5000, 10 ** 6), 1)
        self.assertEqual(len(last(Turing(1, 2, [(0, 1, 0, 1, 0)]), start((1,) * 3000), 10 ** 6)[1]), 0)
        blinking = Turing(2, 2, [(0, 0, 0, 0, 1), (1, 0, 0, 0, 0)])
        self.assertTrue(is_paper(blinking, start(()), ("repeat", 0, 100000)))
        self.assertEqual(carried(TuringToBinary(blinking), start(()), ("repeat", 0, 9000)), ("repeat", 0, 9000))

    def test_long_texts(self):
        program = Registers(1, [("inc", 0, 0)] * 20000)
        self.assertEqual(parse_machine(format_machine(program)), program)
        self.assertEqual(len(hold("x\n" * 20000)), 20001)

    def test_long_chains(self):
        chain = Chain([Stretched(number, number + 1) for number in range(2000)])
        self.assertEqual((chain.cost(5), chain.last_steps(0), chain.picture(5), chain.read_back(5)), (1, 0, 5, 5))

    def test_functions(self):
        for function in DEEPEST:
            value(function, (1, 1))
            Compiled(function)
        self.assertEqual(value(of_count(2), (3,)), 3)
        self.assertEqual(value(ADD, (30000, 1)), 30001)
        self.assertEqual(census(2, 5000, 5100, 50)[:3], census(2, 5000, 5100, 50)[:3])


class LaboratoryTest(unittest.TestCase):
    """What point 1 tells of the whole: translations lead from kind to kind and back."""

    def test_round_trips(self):
        compiled = Compiled(("of", ADD, (("next",), ("arg", 1, 0))))
        into = RegistersToFractions(compiled.machine)
        chain = Chain([into, FractionsToRegisters(into.target)])
        end = answer_through(chain, compiled.begin((2,)), 10 ** 6)
        self.assertEqual(compiled.answer(end), 5)

    def test_from_a_tape_to_a_tape(self):
        machine = Turing(2, 2, [(0, 1, 0, 1, 1), (1, 0, 1, -1, 0)])
        first = TuringToTags(machine)
        chain = Chain([first, TagsToTuring(first.target)])
        begin = (0, (), 1, ())
        self.assertEqual(answer_through(chain, begin, 10 ** 6), last(machine, begin, 9))
        first = TuringToRegisters(machine)
        second = RegistersToCounters(first.target)
        chain = Chain([first, second, CountersToTuring(second.target)])
        self.assertEqual(chain.target.symbols, 3)
        self.assertEqual(answer_through(chain, begin, 10 ** 6), last(machine, begin, 9))

    def test_a_tag_system_as_strings(self):
        first = TagsToTuring(Tags([(1, 1), None, (0,)]))
        chain = Chain([first, TuringToStrings(first.target)])
        self.assertEqual(answer_through(chain, (0, 2, 0, 0), 10 ** 5), (1, 1, 1, 1))
