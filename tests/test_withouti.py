"""Point 30: combinator machines without I."""

import unittest
from random import Random

from tests.alike import check_alike, equal
from tests.samples import left_deep, right_deep
from translatory.chains import Chain
from translatory.combinators import Combinators, parse_term, show_term, size
from translatory.errors import NotFitting, TooLarge
from translatory.following import answer_through, is_same_run, stands_at, total_cost
from translatory.fractions import Fractions
from translatory.registers import adding
from translatory.running import length
from translatory.strings import Strings
from translatory.tags import Tags
from translatory.turing import Turing
from translatory.withouti import WithoutI

LETTERS = ["S", "K", "I", "SK", "SI", "KI"]


def some_term(random, letters, letters_left):
    """A term of so many letters."""
    if letters_left == 1:
        return random.choice(letters)
    left = random.randint(1, letters_left - 1)
    return some_term(random, letters, left), some_term(random, letters, letters_left - left)


class PictureTest(unittest.TestCase):
    def test_fields(self):
        for letters in LETTERS:
            translation = WithoutI(Combinators(letters))
            self.assertEqual(translation.source, Combinators(letters))
            self.assertEqual(translation.target, Combinators("SK"))

    def test_the_example_of_the_interface(self):
        translation = WithoutI(Combinators("SI"))
        self.assertEqual([translation.cost(parse_term("IS")), translation.cost(parse_term("SIII")),
                          translation.target.letters], [2, 1, "SK"])

    def test_pictures(self):
        for letters, text, picture in [
                ("SI", "I", "SKK"), ("SI", "SII", "S(SKK)(SKK)"), ("KI", "KI", "K(SKK)"),
                ("I", "I(II)I", "SKK(SKK(SKK))(SKK)"), ("SI", "IS(SI)", "SKKS(S(SKK))"),
                ("SK", "SKK(KS)", "SKK(KS)"), ("S", "SSS", "SSS"), ("K", "K(KK)", "K(KK)")]:
            translation = WithoutI(Combinators(letters))
            self.assertEqual(show_term(translation.picture(parse_term(text))), picture)
            self.assertEqual(show_term(translation.read_back(parse_term(picture))), text)

    def test_reading_back(self):
        random = Random(20)
        for letters in LETTERS:
            translation = WithoutI(Combinators(letters))
            for letters_left in range(1, 30):
                term = some_term(random, letters, letters_left)
                self.assertEqual(translation.read_back(translation.picture(term)), term)

    def test_the_largest_size(self):
        translation = WithoutI(Combinators("SI"))
        for make in (left_deep, right_deep):
            # Each I has three letters in the picture.
            fitting = make("I", "S", 6666) if make is right_deep else make("S", "I", 6666)
            picture = translation.picture(fitting)
            self.assertEqual(size(picture), 19999)
            self.assertTrue(equal(translation.read_back(picture), fitting))
            self.assertEqual(size(translation.picture(("S", fitting))), 20000)
            for more in [("I", fitting), (("S", "S"), fitting), make("I", "I", 6666)]:
                with self.assertRaises(TooLarge) as caught:
                    translation.picture(more)
                self.assertEqual(caught.exception.limit, 20000)

    def test_a_source_without_i_has_no_refused_picture(self):
        translation = WithoutI(Combinators("SK"))
        term = left_deep("S", "K", 19999)
        self.assertTrue(equal(translation.picture(term), term))


class RunTest(unittest.TestCase):
    def test_small_terms(self):
        random = Random(21)
        for letters in LETTERS:
            translation = WithoutI(Combinators(letters))
            for letters_left in range(1, 25):
                for _ in range(6):
                    term = some_term(random, letters, letters_left)
                    check_alike(self, translation, term, 10)
                    self.assertTrue(is_same_run(translation, term, 10))

    def test_costs(self):
        for letters, text, cost in [
                ("SI", "IS", 2), ("SI", "ISSS", 2), ("SI", "SIIS", 1), ("SI", "S(IS)", 2), ("SI", "S(S(IS))", 2),
                ("SI", "SI(S(SSSS))", 1), ("SI", "SI(S(SSSI)(IS))", 1), ("SI", "SI(S(SSI)(IS))", 2),
                ("KI", "KII", 1), ("KI", "IK", 2), ("KI", "K(I(KII))", 2), ("KI", "K(K(KI)I(KK))", 1), ("I", "II", 2),
                ("SK", "KSS", 1), ("SK", "SKKS", 1), ("S", "SSSS", 1), ("K", "K(KKK)", 1)]:
            translation = WithoutI(Combinators(letters))
            self.assertEqual(translation.cost(parse_term(text)), cost, text)
            self.assertGreaterEqual(check_alike(self, translation, parse_term(text), 5), 1)

    def test_last_steps(self):
        for letters, text in [("SI", "I"), ("SI", "SI(SI)"), ("KI", "K(KI)"), ("SK", "SKK"), ("S", "SS")]:
            translation = WithoutI(Combinators(letters))
            self.assertEqual(translation.last_steps(parse_term(text)), 0)
            self.assertEqual(check_alike(self, translation, parse_term(text), 5), 0)

    def test_terms_that_go_deep(self):
        translation = WithoutI(Combinators("SI"))
        for term in [left_deep("I", "S", 6000), right_deep("S", ("I", "S"), 6000), right_deep("I", "S", 2000),
                     left_deep("S", "I", 3000)]:
            check_alike(self, translation, term, 4)
            self.assertTrue(is_same_run(translation, term, 4))
            self.assertTrue(equal(stands_at(translation, term, 0), translation.picture(term)))

    def test_a_deep_step_costs_two(self):
        translation = WithoutI(Combinators("SI"))
        self.assertEqual(translation.cost(right_deep("S", ("I", "S"), 6000)), 2)
        self.assertEqual(translation.cost(right_deep("S", left_deep("S", "I", 3), 6000)), 1)
        self.assertEqual(translation.cost(left_deep("I", "S", 6000)), 2)

    def test_the_answer(self):
        translation = WithoutI(Combinators("KI"))
        term = parse_term("I(KI)(IK)(KKI)")
        steps = total_cost(translation, term, 99)
        self.assertEqual(length(translation.target, translation.picture(term), 99), steps)
        self.assertEqual(show_term(answer_through(translation, term, steps)), "K")

    def test_a_chain(self):
        chain = Chain([WithoutI(Combinators("SI")), WithoutI(Combinators("SK"))])
        for text in ["SIIS", "I(IS)", "SI(IS)(II)"]:
            check_alike(self, chain, parse_term(text), 6)
            self.assertTrue(is_same_run(chain, parse_term(text), 6))
        self.assertEqual(chain.cost(parse_term("IS")), 2)

    def test_a_chain_refuses_large_pictures(self):
        chain = Chain([WithoutI(Combinators("KI")), WithoutI(Combinators("SK"))])
        with self.assertRaises(TooLarge):
            chain.picture(right_deep("K", "I", 19998))


class FittingTest(unittest.TestCase):
    def test_others(self):
        for machine in [Combinators("SKI"), Combinators("IKS"), Turing(1, 2, []), adding(), Fractions([]),
                        Tags([]), Strings([])]:
            with self.assertRaises(NotFitting):
                WithoutI(machine)
