"""Point 31: numbers as terms."""

import unittest
from random import Random

from tests.samples import left_deep, right_deep
from translatory.combinators import Combinators, parse_term, show_term, size, variables
from translatory.errors import BadArgument, TooLarge, TooLong
from translatory.running import last
from translatory.unary import product_term, sum_term, unary, unary_value

ONE_MORE = "S(S(KS)K)"


def plain_value(term, limit):
    """What point 31 says, one whole term after the other; a word for an error."""
    machine = Combinators("SKI")
    current = ((term, "f"), "x")
    steps = 0
    while True:
        try:
            following = machine.step(current)
        except TooLarge:
            return "large"
        if following is None:
            break
        steps += 1
        if steps > limit:
            return "long"
        current = following
    number = 0
    while isinstance(current, tuple) and current[0] == "f":
        current = current[1]
        number += 1
    return number if current == "x" else None


def told_value(term, limit):
    """What the program says, with a word for an error."""
    try:
        return unary_value(term, limit)
    except TooLong as error:
        assert error.limit == limit
        return "long"
    except TooLarge as error:
        assert error.limit == 20000
        return "large"


def some_term(random, letters_left):
    """A term of so many letters."""
    if letters_left == 1:
        return random.choice("SSKI")
    left = random.randint(1, letters_left - 1)
    return some_term(random, left), some_term(random, letters_left - left)


class UnaryTest(unittest.TestCase):
    def test_letter_by_letter(self):
        for number, text in [(0, "KI"), (1, "S(S(KS)K)(KI)"), (2, "S(S(KS)K)(S(S(KS)K)(KI))")]:
            self.assertEqual(show_term(unary(number)), text)
        for number in (12, 1000):
            text = f"{ONE_MORE}(" * number + "KI" + ")" * number
            self.assertTrue(show_term(unary(number)) == text)
            self.assertEqual(size(unary(number)), 5 * number + 2)

    def test_out_of_range(self):
        for number in (-1, -100, 1001, 10 ** 20):
            with self.assertRaises(BadArgument):
                unary(number)

    def test_what_it_applies(self):
        for number in range(6):
            self.assertEqual(plain_value(unary(number), 100), number)


class ValueTest(unittest.TestCase):
    def test_unary_terms(self):
        for number in [0, 1, 2, 3, 12, 100, 1000]:
            self.assertEqual(unary_value(unary(number), 10000), number)

    def test_other_terms_that_are_numbers(self):
        for text, number in [("I", 1), ("SKK", 1), ("SII(KI)", 1), ("S(S(KS)K)I", 2), ("S(KS)KII", 1),
                             ("SII(S(S(KS)K)I)", 4), ("I(KI)", 0), ("K(SKK)", 0)]:
            self.assertEqual(unary_value(parse_term(text), 1000), number, text)

    def test_terms_that_are_no_number(self):
        # Behind each stands the last term of its run.
        for text, end in [("S", "Sfx"), ("K", "f"), ("KK", "Kx"), ("SI", "x(fx)"), ("K(KS)", "S"), ("K(K(KI))", "KI"),
                          ("SII", "ffx"), ("S(SI)I", "f(ff)x"), ("S(K(SI))K", "xf"), ("K(SII)", "xx"),
                          ("S(SI)(KK)", "fK"), ("SSK", "fxf"), ("SS", "Sx(fx)"), ("SSI", "fx(fx)"),
                          ("S(S(KS)K)(SI)", "f(x(fx))"), ("S(SS)K", "f(f(Kf)x)"), ("SI(KI)", "fIx")]:
            term = parse_term(text)
            self.assertEqual(show_term(last(Combinators("SKI"), ((term, "f"), "x"), 100)), end)
            self.assertIsNone(unary_value(term, 100), text)

    def test_limits(self):
        for number in (1, 2, 7):
            steps = 5 * number + 2
            self.assertEqual(unary_value(unary(number), steps), number)
            self.assertEqual(told_value(unary(number), steps - 1), "long")
        self.assertEqual(unary_value(unary(0), 2), 0)
        for limit in (0, 1, -1):
            self.assertEqual(told_value(unary(0), limit), "long")
        self.assertIsNone(unary_value("S", 0))
        self.assertEqual(unary_value("I", 1), 1)
        self.assertEqual(told_value("I", 0), "long")

    def test_a_run_that_never_ends(self):
        for limit in (0, 1, 1000, 100000):
            self.assertEqual(told_value(parse_term("SII(SII)"), limit), "long")
            # It stands within an argument of the variable f.
            self.assertEqual(told_value(parse_term("S(S(KS)K)(K(SII(SII)))"), limit), "long")

    def test_a_run_that_grows(self):
        for text in ["S(SS)(SS)(S(SS)(SS))(SS)(SII)", "SII(S(SII)(SII))", "S(S(KS)K)(S(SII)(SII)(S(SII)(SII)))"]:
            self.assertEqual(told_value(parse_term(text), 10 ** 6), "large", text)

    def test_the_greatest_size(self):
        # S K K t f x goes to K t (K t) f x.
        term = (parse_term("SKK"), ("K", right_deep("K", "K", 9996)))
        self.assertEqual(size(term), 10001)
        self.assertIsNone(unary_value(term, 10))
        for larger in [(term, "S"), (parse_term("SKK"), ("K", right_deep("K", "K", 9997)))]:
            self.assertEqual(told_value(larger, 10), "large")
            # Steps of the letters I and K before it take away what they should.
            for text in ["I", "II", "KI(SS)", "K(KI)SS"]:
                self.assertEqual(told_value((parse_term(text), larger), 10), "large")
        for text in ["I", "II", "KI(SS)", "K(KI)SS"]:
            self.assertIsNone(told_value((parse_term(text), term), 10))

    def test_against_whole_terms(self):
        random = Random(31)
        found = set()
        for _ in range(4000):
            term = some_term(random, random.randint(1, 14))
            limit = random.choice([0, 1, 2, 3, 5, 8, 40])
            self.assertEqual(told_value(term, limit), plain_value(term, limit), show_term(term))
            found.add(plain_value(term, limit))
        self.assertTrue({None, "long", 0, 1} <= found)

    def test_the_term_is_not_changed(self):
        term = unary(3)
        unary_value(term, 100)
        self.assertEqual(show_term(term), show_term(unary(3)))

    def test_the_example_of_the_interface(self):
        self.assertEqual([show_term(unary(1)), unary_value(unary(3), 100)], ["S(S(KS)K)(KI)", 3])

    def test_terms_that_go_deep(self):
        self.assertEqual(unary_value(right_deep("I", ("K", "I"), 9000), 10000), 0)
        self.assertEqual(unary_value(left_deep("I", "I", 9000), 10000), 1)
        self.assertIsNone(unary_value(("K", right_deep("K", "K", 9000)), 10000))


class SumTest(unittest.TestCase):
    def test_letters_and_sizes(self):
        for term in (sum_term(), product_term()):
            self.assertTrue(set(show_term(term)) <= set("SKI()"))
            self.assertLessEqual(size(term), 40)
            self.assertEqual(variables(term), [])

    def test_small_numbers(self):
        for one in range(4):
            for other in range(4):
                total = ((sum_term(), unary(one)), unary(other))
                product = ((product_term(), unary(one)), unary(other))
                self.assertEqual(unary_value(total, 1000), one + other)
                self.assertEqual(unary_value(product, 1000), one * other)
                self.assertEqual(plain_value(total, 1000), one + other)
                self.assertEqual(plain_value(product, 1000), one * other)

    def test_greater_numbers(self):
        for one, other in [(12, 9), (0, 40), (40, 0), (31, 30), (1, 1000), (1000, 1)]:
            self.assertEqual(unary_value(((sum_term(), unary(one)), unary(other)), 100000), one + other)
            self.assertEqual(unary_value(((product_term(), unary(one)), unary(other)), 100000), one * other)

    def test_sums_and_products_of_sums(self):
        total = ((sum_term(), unary(2)), unary(3))
        self.assertEqual(unary_value(((product_term(), total), unary(4)), 10000), 20)
        self.assertEqual(unary_value(((product_term(), unary(4)), total), 10000), 20)
        self.assertEqual(unary_value(((sum_term(), total), total), 10000), 10)

    def test_a_sum_has_a_limit_as_other_terms(self):
        term = ((sum_term(), unary(2)), unary(2))
        steps = next(limit for limit in range(1000) if told_value(term, limit) != "long")
        self.assertEqual(plain_value(term, steps), 4)
        self.assertEqual(plain_value(term, steps - 1), "long")
