"""Points 17 to 19: chains of translations."""

import unittest

from tests.samples import Countdown, IntoWords, OutOfWords, Stretched, Triangle
from translatory.chains import Chain
from translatory.errors import NotFitting, TooLarge, TooLong
from translatory.fractions import Fractions
from translatory.registers import Registers
from translatory.running import after, length
from translatory.strings import Strings


class Refusing(Stretched):
    """A translation that refuses the pictures of some configurations."""

    def __init__(self, source, target, refused):
        Stretched.__init__(self, source, target, factor=2, tail=1)
        self.refused = refused

    def picture(self, configuration):
        if configuration in self.refused:
            raise TooLarge(100000)
        return Stretched.picture(self, configuration)


class CountdownToFractions:
    """A countdown as powers of 2 that are divided, each time by way of a 3."""

    def __init__(self, source):
        self.source = Countdown(source)
        self.target = Fractions([(1, 3), (3, 2)])

    def picture(self, configuration):
        return 2 ** configuration

    def read_back(self, configuration):
        return configuration.bit_length() - 1

    def cost(self, configuration):
        return 2

    def last_steps(self, configuration):
        return 0


class MakingTest(unittest.TestCase):
    def refused(self, translations):
        with self.assertRaises(NotFitting):
            Chain(translations)

    def test_fields(self):
        chain = Chain([Stretched("a", "b"), Triangle("b", "c"), Stretched("c", "d")])
        self.assertEqual(chain.source, Countdown("a"))
        self.assertEqual(chain.target, Countdown("d"))

    def test_empty(self):
        self.refused([])

    def test_one(self):
        chain = Chain([Triangle("a", "b", tail=3)])
        self.assertEqual((chain.source, chain.target), (Countdown("a"), Countdown("b")))
        self.assertEqual(chain.picture(4), 13)
        self.assertEqual(chain.read_back(13), 4)
        self.assertEqual(chain.cost(4), 4)
        self.assertEqual(chain.last_steps(0), 3)

    def test_a_target_that_is_not_the_next_source(self):
        self.refused([Stretched("a", "b"), Stretched("c", "d")])
        self.refused([Stretched("a", "b"), Stretched("b", "c"), Stretched("d", "e")])
        self.refused([Stretched("a", "b"), Stretched("x", "c"), Stretched("c", "e")])
        self.refused([CountdownToFractions("a"), Stretched("a", "b")])

    def test_real_machines_are_compared_by_their_fields(self):
        first = Stretched("a", "b")
        second = Stretched("b", "c")
        first.target = Registers(1, [("dec", 0, 0, 1), ("end",)])
        second.source = Registers(1, [("dec", 0, 0, 1), ("end",)])
        self.assertEqual(Chain([first, second]).target, Countdown("c"))
        second.source = Registers(1, [("dec", 0, 0, 0), ("end",)])
        self.refused([first, second])

    def test_string_systems(self):
        chain = Chain([Stretched("a", "b", 2), IntoWords("b")])
        self.assertEqual(chain.target, Strings([((1,), ())]))
        self.assertEqual(Chain([IntoWords("a")]).picture(2), (1, 1))
        self.refused([IntoWords("a"), OutOfWords("b")])
        self.refused([Stretched("a", "b"), IntoWords("b"), OutOfWords("c")])
        self.refused([chain, OutOfWords("c")])

    def test_the_list_is_copied(self):
        translations = [Stretched("a", "b", 2), Stretched("b", "c", 3)]
        chain = Chain(translations)
        self.assertEqual(len(translations), 2)
        translations[0] = translations[1] = None
        translations.append(None)
        self.assertEqual(chain.picture(1), 6)
        self.assertEqual(chain.cost(1), 6)


class PictureTest(unittest.TestCase):
    def test_in_order_and_back_in_the_opposite_order(self):
        chain = Chain([Stretched("a", "b", 2, 1), Triangle("b", "c"), Stretched("c", "d", 3, 2)])
        self.assertEqual(chain.picture(2), 15 * 3 + 2)
        for number in range(20):
            self.assertEqual(chain.read_back(chain.picture(number)), number)

    def test_the_order_counts(self):
        self.assertEqual(Chain([Stretched("a", "b", 2), Triangle("b", "c")]).picture(3), 21)
        self.assertEqual(Chain([Triangle("a", "b"), Stretched("b", "c", 2)]).picture(3), 12)

    def test_into_words(self):
        chain = Chain([Stretched("a", "b", 2, 1), IntoWords("b")])
        self.assertEqual(chain.picture(2), (1,) * 5)
        self.assertEqual(chain.read_back((1,) * 5), 2)
        self.assertEqual((chain.cost(2), chain.last_steps(0)), (2, 1))

    def test_a_refused_picture(self):
        chain = Chain([Stretched("a", "b", 2), Refusing("b", "c", [4])])
        self.assertEqual(chain.picture(1), 5)
        with self.assertRaises(TooLarge) as caught:
            chain.picture(2)
        self.assertEqual(caught.exception.limit, 100000)


class CostTest(unittest.TestCase):
    def assert_runs_alike(self, chain, most):
        for number in range(1, most):
            cost = chain.cost(number)
            self.assertEqual(after(chain.target, chain.picture(number), cost),
                             chain.picture(number - 1))
        steps = chain.last_steps(0)
        self.assertEqual(length(chain.target, chain.picture(0), 10 ** 5), steps)
        end = after(chain.target, chain.picture(0), steps)
        self.assertEqual(chain.read_back(end), 0)

    def test_sums_along_the_run_of_the_first_target(self):
        chain = Chain([Triangle("a", "b"), Triangle("b", "c")])
        self.assertEqual([chain.cost(1), chain.cost(2), chain.cost(3)], [1, 3 + 2, 6 + 5 + 4])

    def test_the_last_step_comes_first(self):
        chain = Chain([Stretched("a", "b", 2, 2), Triangle("b", "c", tail=4)])
        self.assertEqual(chain.cost(1), 4 + 3)
        self.assertEqual(chain.last_steps(0), 2 + 1 + 4)

    def test_chains_run_alike(self):
        self.assert_runs_alike(Chain([Stretched("a", "b", 3, 2), Triangle("b", "c", 4)]), 6)
        self.assert_runs_alike(Chain([Triangle("a", "b", 4), Stretched("b", "c", 3, 2)]), 6)
        self.assert_runs_alike(Chain([Triangle("a", "b", 1), Triangle("b", "c", 2),
                                      Stretched("c", "d", 2, 1)]), 5)
        self.assert_runs_alike(Chain([Triangle("a", "b"), CountdownToFractions("b")]), 6)
        self.assert_runs_alike(Chain([Triangle("a", "b", 1), IntoWords("b")]), 6)

    def test_no_last_steps(self):
        self.assertEqual(Chain([Stretched("a", "b"), Triangle("b", "c")]).last_steps(0), 0)
        self.assertEqual(Chain([Stretched("a", "b"), Triangle("b", "c", 3)]).last_steps(0), 3)
        self.assertEqual(Chain([Stretched("a", "b", 1, 3), Stretched("b", "c")]).last_steps(0), 3)

    def test_last_steps_through_three(self):
        chain = Chain([Stretched("a", "b", 1, 2), Stretched("b", "c", 3, 4),
                       Stretched("c", "d", 5, 6)])
        self.assertEqual(chain.last_steps(0), 2 * 3 * 5 + 4 * 5 + 6)

    def test_a_chain_within_a_chain(self):
        inner = Chain([Triangle("b", "c", 1), Stretched("c", "d", 2, 3)])
        flat = Chain([Stretched("a", "b", 2, 1), Triangle("b", "c", 1),
                      Stretched("c", "d", 2, 3), Triangle("d", "e", 2)])
        nested = Chain([Stretched("a", "b", 2, 1), inner, Triangle("d", "e", 2)])
        deeper = Chain([Chain([Stretched("a", "b", 2, 1), inner]), Triangle("d", "e", 2)])
        for chain in (nested, deeper):
            self.assertEqual((chain.source, chain.target), (flat.source, flat.target))
            self.assertEqual(chain.last_steps(0), flat.last_steps(0))
            for number in range(1, 4):
                self.assertEqual(chain.cost(number), flat.cost(number))
                self.assertEqual(chain.picture(number), flat.picture(number))
                self.assertEqual(chain.read_back(flat.picture(number)), number)
        self.assert_runs_alike(nested, 3)

    def test_many_translations(self):
        chain = Chain([Stretched(number, number + 1) for number in range(3000)])
        self.assertEqual((chain.picture(5), chain.read_back(5)), (5, 5))
        self.assertEqual((chain.cost(5), chain.last_steps(0)), (1, 0))


class LimitTest(unittest.TestCase):
    def too_long(self, limit, method, configuration):
        with self.assertRaises(TooLong) as caught:
            method(configuration)
        self.assertEqual(caught.exception.limit, limit)

    def test_cost(self):
        translations = [Triangle("a", "b"), Stretched("b", "c", 1000)]
        self.assertEqual(Chain(translations, limit=7).cost(7), 7000)
        self.too_long(7, Chain(translations, limit=7).cost, 8)
        self.assertEqual(Chain(translations, limit=1).cost(1), 1000)
        self.too_long(1, Chain(translations, limit=1).cost, 2)

    def test_last_steps(self):
        for steps, limit in [(7, 7), (1, 1), (0, 1), (7, 8)]:
            chain = Chain([Stretched("a", "b", 1, steps), Stretched("b", "c", 10)], limit=limit)
            self.assertEqual(chain.last_steps(0), 10 * steps)
        for steps, limit in [(8, 7), (2, 1)]:
            chain = Chain([Stretched("a", "b", 1, steps), Stretched("b", "c", 10)], limit=limit)
            self.too_long(limit, chain.last_steps, 0)

    def test_the_limit_that_is_not_told(self):
        translations = [Triangle("a", "b"), Stretched("b", "c", 2)]
        self.assertEqual(Chain(translations).cost(100000), 200000)
        self.too_long(100000, Chain(translations).cost, 100001)
        chain = Chain([Stretched("a", "b", 1, 100000), Stretched("b", "c", 1, 5)])
        self.assertEqual(chain.last_steps(0), 100005)
        chain = Chain([Stretched("a", "b", 1, 100001), Stretched("b", "c", 1, 5)])
        self.too_long(100000, chain.last_steps, 0)

    def test_each_sum_is_measured_by_itself(self):
        three = [Stretched("a", "b", 5), Stretched("b", "c", 5), Stretched("c", "d", 100)]
        self.assertEqual(Chain(three, limit=5).cost(1), 2500)
        for translations in ([three[0], Stretched("b", "c", 6), three[2]],
                             [Stretched("a", "b", 6), three[1], three[2]]):
            self.too_long(5, Chain(translations, limit=5).cost, 1)

    def test_sums_within_last_steps(self):
        three = [Stretched("a", "b", 1, 2), Stretched("b", "c", 3, 4), Stretched("c", "d")]
        self.assertEqual(Chain(three, limit=4).last_steps(0), 10)
        self.too_long(3, Chain(three, limit=3).last_steps, 0)
        three[1] = Stretched("b", "c", 4, 3)
        self.too_long(3, Chain(three, limit=3).last_steps, 0)

    def test_one_translation_has_no_sum(self):
        chain = Chain([Stretched("a", "b", 50, 60)], limit=1)
        self.assertEqual((chain.cost(1), chain.last_steps(0)), (50, 60))

    def test_a_chain_within_a_chain_keeps_its_own_limit(self):
        inner = Chain([Stretched("b", "c", 5), Stretched("c", "d", 2)], limit=4)
        self.too_long(4, Chain([Stretched("a", "b", 2), inner], limit=100).cost, 1)
        inner = Chain([Stretched("b", "c", 5), Stretched("c", "d", 2)], limit=5)
        self.assertEqual(Chain([Stretched("a", "b", 2), inner], limit=2).cost(1), 20)

    def test_too_long_comes_before_a_refused_picture(self):
        chain = Chain([Refusing("a", "b", [3]), Triangle("b", "c")], limit=1)
        self.too_long(1, chain.cost, 3)
        chain = Chain([Refusing("a", "b", [3]), Triangle("b", "c")], limit=2)
        self.assertRaises(TooLarge, chain.cost, 3)
        self.assertEqual(chain.cost(2), 5 + 4)

    def test_a_refused_picture_on_the_way(self):
        chain = Chain([Stretched("a", "b", 3), Refusing("b", "c", [2]), Stretched("c", "d")])
        self.assertRaises(TooLarge, chain.cost, 1)
        self.assertEqual(chain.cost(2), 6)
        chain = Chain([Stretched("a", "b", 1, 3), Refusing("b", "c", [0]), Stretched("c", "d")])
        self.assertRaises(TooLarge, chain.last_steps, 0)
