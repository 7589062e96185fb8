"""Points 17 and 18: following a run through a translation."""

import unittest

from tests.samples import Countdown, Endless, IntoWords, Stretched, Triangle, left_deep, right_deep
from translatory.chains import Chain
from translatory.combinators import Combinators, show_term
from translatory.countertapes import CountersToTuring
from translatory.errors import BadArgument, TooLarge, TooLong
from translatory.following import answer_through, is_same_run, stands_at, total_cost
from translatory.fractionrun import RegistersToFractions
from translatory.registers import Registers, adding
from translatory.strings import Strings
from translatory.withouti import WithoutI


class WrongCost(Stretched):
    """Tells one step too many or too few."""

    def __init__(self, wrong_at, change, factor=2, tail=1):
        Stretched.__init__(self, "a", "b", factor=factor, tail=tail)
        self.wrong_at = wrong_at
        self.change = change

    def cost(self, configuration):
        return self.factor + (self.change if configuration == self.wrong_at else 0)


class WrongPicture(Stretched):
    """Has a wrong picture of one configuration."""

    def __init__(self, wrong_at):
        Stretched.__init__(self, "a", "b", factor=2, tail=1)
        self.wrong_at = wrong_at

    def picture(self, configuration):
        return Stretched.picture(self, configuration) + (1 if configuration == self.wrong_at else 0)


class WrongReadBack(Stretched):
    """Reads everything back wrongly."""

    def read_back(self, configuration):
        return Stretched.read_back(self, configuration) + 1


class WrongLastSteps(Stretched):
    """Tells another number of last steps than there are."""

    def __init__(self, tail, told):
        Stretched.__init__(self, "a", "b", factor=1, tail=tail)
        self.told = told

    def last_steps(self, configuration):
        return self.told


class EndsBetween(Stretched):
    """The target ends at the picture of 0, but the step to it is said to take longer."""

    def cost(self, configuration):
        return 1 if configuration > 1 else 4


class Costless(Stretched):
    """All configurations have one picture, and no step takes a step."""

    def picture(self, configuration):
        return 0

    def read_back(self, configuration):
        return 0

    def cost(self, configuration):
        return 0


class NeverEnding(Stretched):
    """A source that goes on for ever, as its target does."""

    def __init__(self):
        Stretched.__init__(self, "a", "b")
        self.source = Endless()
        self.target = Endless()


class NoEnd(Stretched):
    """The target goes on where the source ends."""

    def __init__(self):
        Stretched.__init__(self, "a", "b")
        self.target = Endless()

    def picture(self, configuration):
        return 100 - configuration


class WrongWords(IntoWords):
    """A translation into a string system with a wrong cost at one configuration."""

    def __init__(self, wrong_at):
        IntoWords.__init__(self, "a")
        self.wrong_at = wrong_at

    def cost(self, configuration):
        return 2 if configuration == self.wrong_at else 1


class BlankWords(IntoWords):
    """The word at which the target stands has more symbols than the picture."""

    def __init__(self):
        IntoWords.__init__(self, "a")
        self.target = Strings([((1,), (0,))])

    def picture(self, configuration):
        return (1,) * configuration

    def read_back(self, configuration):
        return configuration.count(1)


class Refusing(Stretched):
    """Refuses the pictures of 3 and less."""

    def picture(self, configuration):
        if configuration <= 3:
            raise TooLarge(100000)
        return configuration


class TotalCostTest(unittest.TestCase):
    def test_counts_within_the_run_at_its_length_and_beyond(self):
        for count, total in [(0, 0), (1, 4), (2, 7), (3, 9), (4, 10), (5, 10), (1000, 10)]:
            self.assertEqual(total_cost(Triangle("a", "b", tail=5), 4, count), total)

    def test_a_run_that_never_ends(self):
        self.assertEqual(total_cost(NeverEnding(), 3, 50), 50)

    def test_a_source_that_ends_at_once(self):
        self.assertEqual(total_cost(Stretched("a", "b", factor=3), 0, 7), 0)

    def test_a_negative_count(self):
        for count in (-1, -100):
            with self.assertRaises(BadArgument):
                total_cost(Stretched("a", "b"), 4, count)

    def test_a_chain_raises_what_its_costs_raise(self):
        chain = Chain([Stretched("a", "b", factor=5), Stretched("b", "c")], limit=4)
        self.assertEqual(total_cost(chain, 3, 0), 0)
        with self.assertRaises(TooLong):
            total_cost(chain, 3, 1)

    def test_a_chain_needs_pictures(self):
        chain = Chain([Refusing("a", "b"), Stretched("b", "c")])
        self.assertEqual(total_cost(chain, 5, 2), 2)
        with self.assertRaises(TooLarge):
            total_cost(chain, 5, 3)


class StandsAtTest(unittest.TestCase):
    def test_counts_within_the_run_at_its_length_and_beyond(self):
        translation = Triangle("a", "b", tail=5)
        for count, place in [(0, 15), (1, 11), (2, 8), (3, 6), (4, 5), (5, 5), (1000, 5)]:
            self.assertEqual(stands_at(translation, 4, count), place)

    def test_it_is_not_the_picture_where_the_translation_is_wrong(self):
        self.assertEqual(stands_at(WrongCost(3, 1), 4, 2), 4)

    def test_a_word_with_more_blanks(self):
        self.assertEqual(stands_at(BlankWords(), 4, 3), (0, 0, 0, 1))

    def test_a_negative_count(self):
        with self.assertRaises(BadArgument):
            stands_at(Stretched("a", "b"), 4, -1)

    def test_a_negative_count_comes_before_a_refused_picture(self):
        with self.assertRaises(BadArgument):
            stands_at(Refusing("a", "b"), 2, -1)

    def test_a_refused_picture(self):
        with self.assertRaises(TooLarge):
            stands_at(Refusing("a", "b"), 2, 0)
        self.assertEqual(stands_at(Refusing("a", "b"), 4, 2), 2)


class AnswerThroughTest(unittest.TestCase):
    def test_the_limit_is_the_length_of_the_run_of_the_target(self):
        translation = Triangle("a", "b", tail=5)
        for limit in (15, 16, 1000):
            self.assertEqual(answer_through(translation, 4, limit), 0)
        for limit in (0, 1, 14):
            with self.assertRaises(TooLong) as caught:
                answer_through(translation, 4, limit)
            self.assertEqual(caught.exception.limit, limit)

    def test_no_steps(self):
        self.assertEqual(answer_through(Stretched("a", "b", factor=2), 0, 0), 0)

    def test_only_the_target_is_run(self):
        translation = Stretched("a", "b", factor=2)
        translation.source = Endless()
        self.assertEqual(answer_through(translation, 3, 6), 0)

    def test_it_is_read_back(self):
        self.assertEqual(answer_through(WrongReadBack("a", "b"), 3, 6), 1)

    def test_a_run_that_never_ends(self):
        with self.assertRaises(TooLong) as caught:
            answer_through(NeverEnding(), 3, 6)
        self.assertEqual(caught.exception.limit, 6)

    def test_a_negative_limit(self):
        with self.assertRaises(BadArgument):
            answer_through(Stretched("a", "b"), 3, -1)
        with self.assertRaises(BadArgument):
            answer_through(Refusing("a", "b"), 3, -1)

    def test_a_refused_picture(self):
        with self.assertRaises(TooLarge):
            answer_through(Refusing("a", "b"), 3, 5)

    def test_a_program_of_the_document(self):
        self.assertEqual(answer_through(RegistersToFractions(adding()), (0, (3, 4)), 100), (2, (7, 0)))


class SameRunTest(unittest.TestCase):
    def same(self, translation, configuration, count):
        self.assertIs(is_same_run(translation, configuration, count), True)

    def other(self, translation, configuration, count):
        self.assertIs(is_same_run(translation, configuration, count), False)

    def test_right_translations(self):
        for count in (0, 1, 3, 4, 5, 1000):
            self.same(Stretched("a", "b", factor=3, tail=2), 4, count)
            self.same(Triangle("a", "b", tail=2), 4, count)
            self.same(IntoWords("a"), 4, count)
            self.same(BlankWords(), 4, count)
            self.same(NeverEnding(), 4, count)

    def test_a_wrong_cost(self):
        for change in (-1, 1):
            for count in (0, 1):
                self.same(WrongCost(3, change), 4, count)
            for count in (2, 3, 4, 5, 99):
                self.other(WrongCost(3, change), 4, count)

    def test_a_cost_below_1(self):
        self.same(Costless("a", "b"), 0, 3)
        self.same(Costless("a", "b"), 2, 0)
        self.other(Costless("a", "b"), 2, 1)
        self.other(WrongCost(2, -100), 2, 1)

    def test_a_wrong_picture(self):
        for wrong_at in (3, 2, 1, 0):
            for count in range(4 - wrong_at):
                self.same(WrongPicture(wrong_at), 4, count)
            for count in range(4 - wrong_at, 7):
                self.other(WrongPicture(wrong_at), 4, count)

    def test_a_target_that_ends_in_between(self):
        self.same(EndsBetween("a", "b"), 4, 3)
        self.other(EndsBetween("a", "b"), 4, 4)
        self.other(EndsBetween("a", "b"), 4, 9)

    def test_wrong_last_steps(self):
        for tail, told in [(2, 1), (2, 0), (2, 3), (0, 1), (1, -1), (0, -1)]:
            self.same(WrongLastSteps(tail, told), 3, 2)
            self.other(WrongLastSteps(tail, told), 3, 3)
            self.other(WrongLastSteps(tail, told), 3, 4)
            self.other(WrongLastSteps(tail, told), 0, 0)
        self.same(WrongLastSteps(2, 2), 3, 4)

    def test_a_target_that_does_not_end(self):
        self.same(NoEnd(), 3, 2)
        self.other(NoEnd(), 3, 3)
        self.other(NoEnd(), 0, 0)

    def test_a_wrong_reading_back(self):
        self.same(WrongReadBack("a", "b"), 3, 2)
        self.other(WrongReadBack("a", "b"), 3, 3)
        self.other(WrongReadBack("a", "b"), 0, 0)

    def test_a_wrong_translation_into_a_string_system(self):
        for wrong_at in (1, 2, 3):
            self.same(WrongWords(wrong_at), 4, 4 - wrong_at)
            self.other(WrongWords(wrong_at), 4, 5 - wrong_at)
            self.other(WrongWords(wrong_at), 4, 9)

    def test_a_word_with_more_blanks_is_enough_for_string_systems_only(self):
        translation = BlankWords()
        self.assertNotEqual(stands_at(translation, 4, 1), translation.picture(3))
        self.same(translation, 4, 9)
        self.same(Chain([Stretched("b", "a"), translation]), 4, 9)

    def test_a_negative_count(self):
        with self.assertRaises(BadArgument):
            is_same_run(Stretched("a", "b"), 4, -1)
        with self.assertRaises(BadArgument):
            is_same_run(Refusing("a", "b"), 2, -1)

    def test_a_refused_picture(self):
        with self.assertRaises(TooLarge):
            is_same_run(Refusing("a", "b"), 2, 0)
        self.same(Refusing("a", "b"), 6, 2)
        with self.assertRaises(TooLarge):
            is_same_run(Refusing("a", "b"), 6, 3)

    def test_a_refused_picture_at_the_end_of_a_long_way(self):
        translation = CountersToTuring(Registers(2, [("inc", 0, 0)]))
        with self.assertRaises(TooLarge) as caught:
            is_same_run(translation, (0, (100000, 0)), 1)
        self.assertEqual(caught.exception.limit, 100000)

    def test_a_refused_step_of_the_target(self):
        # SKK x becomes K x (K x), in which x stands twice.
        translation = WithoutI(Combinators("SI"))
        self.same(translation, ("I", right_deep("S", "S", 9997)), 1)
        with self.assertRaises(TooLarge) as caught:
            is_same_run(translation, ("I", right_deep("S", "S", 10000)), 1)
        self.assertEqual(caught.exception.limit, 20000)
        with self.assertRaises(TooLarge):
            answer_through(translation, ("I", right_deep("S", "S", 10000)), 10)

    def test_terms_that_go_deep(self):
        translation = WithoutI(Combinators("SI"))
        for term in [left_deep("I", "S", 6000), right_deep("I", "S", 3000),
                     right_deep("S", ("I", "S"), 3000)]:
            self.same(translation, term, 2)
            self.assertEqual(show_term(stands_at(translation, term, 2)),
                             show_term(translation.picture(two_steps(translation.source, term))))

    def test_deep_terms_that_are_not_the_same(self):
        translation = WithoutI(Combinators("SI"))
        translation.picture = lambda term: right_deep("S", "K", 5000)
        self.other(translation, right_deep("S", ("I", "S"), 3000), 1)

    def test_nothing_else_than_the_methods_of_the_translation_is_needed(self):
        translation = Triangle("a", "b", tail=2)
        translation.source = Countdown("some")
        self.same(translation, 5, 9)


def two_steps(machine, term):
    """The term after at most two steps."""
    for _ in range(2):
        following = machine.step(term)
        term = term if following is None else following
    return term
