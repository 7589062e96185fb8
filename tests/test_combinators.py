"""Points 13 to 16: terms of combinators.

Deep terms are compared by their texts, as Python's own comparison would nest
too many calls.
"""

import unittest

from tests.samples import left_deep, right_deep
from translatory.combinators import (
    Combinators, abstraction, parse_term, put, show_term, size, variables,
)
from translatory.errors import InvalidMachine, InvalidText, TooLarge
from translatory.running import history, last

MACHINE = Combinators("SKI")
DEEP = 9000


def stepped(text):
    """The text of the next term, or None."""
    following = MACHINE.step(parse_term(text))
    return None if following is None else show_term(following)


class MachineTest(unittest.TestCase):
    def test_letters_in_any_order(self):
        for letters, field in [("S", "S"), ("K", "K"), ("I", "I"), ("KS", "SK"), ("IK", "KI"),
                               ("IS", "SI"), ("IKS", "SKI"), ("KIS", "SKI"), ("SKI", "SKI")]:
            self.assertEqual(Combinators(letters).letters, field)

    def test_wrong_letters(self):
        for letters in ["", "X", "SX", "s", "SKIB", "SS", "SKS", "KIK", " S", "SKI ", "SKISKI"]:
            with self.assertRaises(InvalidMachine):
                Combinators(letters)

    def test_equality(self):
        self.assertEqual(Combinators("SK"), Combinators("KS"))
        self.assertNotEqual(Combinators("SK"), Combinators("SI"))
        self.assertNotEqual(Combinators("SK"), Combinators("SKI"))


class StepTest(unittest.TestCase):
    def test_as_many_arguments_as_needed(self):
        self.assertEqual(stepped("IK"), "K")
        self.assertEqual(stepped("KIS"), "I")
        self.assertEqual(stepped("SKIS"), "KS(IS)")

    def test_more_arguments(self):
        self.assertEqual(stepped("IKSS"), "KSS")
        self.assertEqual(stepped("KISSK"), "ISK")
        self.assertEqual(stepped("SKISIK"), "KS(IS)IK")

    def test_fewer_arguments(self):
        for text in ["I", "K", "S", "KI", "KS", "SK", "SKI", "SII"]:
            self.assertIsNone(stepped(text))

    def test_arguments_that_are_pairs(self):
        self.assertEqual(stepped("I(SK)"), "SK")
        self.assertEqual(stepped("K(SK)(KI)"), "SK")
        self.assertEqual(stepped("S(SK)(KI)(II)"), "SK(II)(KI(II))")
        self.assertEqual(stepped("I(KS)(IK)"), "KS(IK)")

    def test_the_head_comes_before_the_arguments(self):
        self.assertEqual(stepped("K(II)(II)"), "II")
        self.assertEqual(stepped("I(II)"), "II")
        self.assertEqual(stepped("S(II)(II)(II)"), "II(II)(II(II))")

    def test_a_step_in_the_first_argument_that_has_one(self):
        self.assertEqual(stepped("S(IK)(IS)"), "SK(IS)")
        self.assertEqual(stepped("S(KI)(IS)"), "S(KI)S")
        self.assertEqual(stepped("SK(IS)"), "SKS")
        self.assertEqual(stepped("K(IS)"), "KS")
        self.assertIsNone(stepped("S(KI)(SK)"))

    def test_a_step_deep_in_an_argument(self):
        self.assertEqual(stepped("S(K(S(KI)(IS)))(II)"), "S(K(S(KI)S))(II)")
        self.assertEqual(stepped("K(S(SK)(K(KIS)))"), "K(S(SK)(KI))")
        self.assertEqual(stepped("S(K(IIK))(II)"), "S(K(IK))(II)")

    def test_an_argument_of_an_argument_comes_before_the_next_argument(self):
        self.assertEqual(stepped("S(K(II))(II)"), "S(KI)(II)")

    def test_normal_forms(self):
        for text in ["S(K(SI))(KI)", "SS(SS)", "K(K(K(KI)))"]:
            self.assertIsNone(stepped(text))

    def test_example(self):
        run = history(MACHINE, parse_term("S(KI)KS(IK)"), 9)
        self.assertEqual([show_term(term) for term in run],
                         ["S(KI)KS(IK)", "KIS(KS)(IK)", "I(KS)(IK)", "KS(IK)", "S"])

    def test_a_run_that_never_ends(self):
        run = history(Combinators("SI"), parse_term("SII(SII)"), 3)
        self.assertEqual([show_term(term) for term in run],
                         ["SII(SII)", "I(SII)(I(SII))", "SII(I(SII))",
                          "I(I(SII))(I(I(SII)))"])

    def test_the_argument_is_not_changed(self):
        term = parse_term("S(IK)(IS)")
        self.assertEqual(show_term(MACHINE.step(term)), show_term(MACHINE.step(term)))
        self.assertEqual(show_term(term), "S(IK)(IS)")


class SizeOfStepsTest(unittest.TestCase):
    def doubling(self, letters):
        """S K K applied to a term t of so many letters: the step goes to K t (K t)."""
        return (parse_term("SKK"), left_deep("S", "K", letters - 1))

    def refused(self, machine, term):
        with self.assertRaises(TooLarge) as caught:
            machine.step(term)
        self.assertEqual(caught.exception.limit, 20000)

    def test_a_step_to_the_greatest_size(self):
        self.assertEqual(size(MACHINE.step(self.doubling(9999))), 20000)

    def test_a_step_to_one_more(self):
        for machine in (MACHINE, Combinators("SK")):
            self.refused(machine, (self.doubling(9999), "S"))
        self.refused(MACHINE, self.doubling(10000))

    def test_a_step_in_an_argument_counts_the_whole_term(self):
        self.assertEqual(size(MACHINE.step((("S", self.doubling(9998)), "K"))), 20000)
        self.refused(MACHINE, (("S", self.doubling(9998)), parse_term("KK")))

    def test_a_term_of_the_greatest_size_may_shrink(self):
        term = left_deep("I", "S", 19999)
        self.assertEqual(size(term), 20000)
        self.assertEqual(size(MACHINE.step(term)), 19999)

    def test_a_normal_form_of_the_greatest_size(self):
        self.assertIsNone(MACHINE.step(right_deep("K", "K", 19999)))

    def test_an_error_in_a_run(self):
        with self.assertRaises(TooLarge):
            last(MACHINE, parse_term("S(SS)(SS)(S(SS)(SS))(SS)(SII)"), 10 ** 6)


class SizeTest(unittest.TestCase):
    def test_size(self):
        for text, letters in [("S", 1), ("x", 1), ("SK", 2), ("S(KI)", 3), ("S(KI)K(xy(SS))", 8)]:
            self.assertEqual(size(parse_term(text)), letters)


class TextTest(unittest.TestCase):
    def refused(self, text):
        with self.assertRaises(InvalidText) as caught:
            parse_term(text)
        self.assertEqual(caught.exception.line, 1)

    def test_fewest_brackets(self):
        for term, text in [("S", "S"), (("S", "K"), "SK"), ((("S", "K"), "I"), "SKI"),
                           (("S", ("K", "I")), "S(KI)"),
                           ((("x", ("y", "z")), ("S", ("K", "I"))), "x(yz)(S(KI))"),
                           (("S", (("K", "I"), "x")), "S(KIx)"),
                           (("S", (("K", ("a", "b")), "x")), "S(K(ab)x)")]:
            self.assertEqual(show_term(term), text)
            self.assertEqual(parse_term(text), term)

    def test_every_letter(self):
        for letter in "SKIabcdefghijklmnopqrstuvwxyz":
            self.assertEqual(parse_term(letter), letter)
            self.assertEqual(show_term(letter), letter)

    def test_spaces(self):
        for text in ["S(KI)", " S ( K I ) ", "S  (KI)", "S(KI)   ", "   S(K I )"]:
            self.assertEqual(parse_term(text), ("S", ("K", "I")))

    def test_brackets_that_are_not_needed(self):
        for text in ["(SK)I", "((SK)I)", "((S)(K))((I))", "S(K)I", "(((SKI)))", " ( S ) KI"]:
            self.assertEqual(parse_term(text), (("S", "K"), "I"))

    def test_no_term(self):
        for text in ["", " ", "   ", "()", "( )", "S()", "()S", "(())", "S(K())", "S( )K"]:
            self.refused(text)

    def test_brackets_that_do_not_match(self):
        for text in ["(", ")", "S(", "S)", "(S", "S(K", "S)K", ")S(", "S(K))", "((S)", "S)(K"]:
            self.refused(text)

    def test_other_characters(self):
        others = [sign for sign in map(chr, range(33, 127))
                  if sign not in "SKI()" and not "a" <= sign <= "z"]
        for sign in others:
            self.refused(sign)
            self.refused(f"S{sign}K")
            self.refused(f"SK {sign}")

    def test_examples(self):
        self.assertEqual(show_term(abstraction("x", parse_term("y(xK)"))), "S(Ky)(SI(KK))")


class AbstractionTest(unittest.TestCase):
    def abstracted(self, variable, text):
        return show_term(abstraction(variable, parse_term(text)))

    def test_the_variable_alone(self):
        self.assertEqual(self.abstracted("x", "x"), "I")

    def test_a_variable_that_does_not_stand_in_the_term(self):
        for text in ["y", "S", "SK", "S(KI)y", "yz(ab)"]:
            bracketed = text if len(text) == 1 else f"({text})"
            self.assertEqual(self.abstracted("x", text), "K" + bracketed)

    def test_a_pair(self):
        self.assertEqual(self.abstracted("x", "xx"), "SII")
        self.assertEqual(self.abstracted("x", "yx"), "S(Ky)I")
        self.assertEqual(self.abstracted("x", "xy"), "SI(Ky)")
        self.assertEqual(self.abstracted("x", "SKx"), "S(K(SK))I")
        self.assertEqual(self.abstracted("x", "x(SK)"), "SI(K(SK))")
        self.assertEqual(self.abstracted("x", "xyx"), "S(SI(Ky))I")
        self.assertEqual(self.abstracted("x", "y(zx)(ab)"), "S(S(Ky)(S(Kz)I))(K(ab))")

    def test_the_abstraction_applied_runs_to_what_putting_gives(self):
        for text in ["x", "xx", "SKx", "K(xI)x", "x(xS)(KxI)", "SSK"]:
            term = parse_term(text)
            for argument in ["K", "SK", "S(KI)"]:
                ways = [(abstraction("x", term), parse_term(argument)),
                        put("x", parse_term(argument), term)]
                ends = [show_term(last(MACHINE, way, 1000)) for way in ways]
                self.assertEqual(ends[0], ends[1])

    def test_the_greatest_size(self):
        term = left_deep("y", "z", 19998)
        self.assertEqual(size(abstraction("x", term)), 20000)
        with self.assertRaises(TooLarge) as caught:
            abstraction("x", left_deep("y", "z", 19999))
        self.assertEqual(caught.exception.limit, 20000)

    def test_the_greatest_size_with_the_variable(self):
        # x, applied to itself n times more, becomes n + 1 letters I and n letters S.
        self.assertEqual(size(abstraction("x", left_deep("x", "x", 9999))), 19999)
        self.assertEqual(size(abstraction("x", ("y", left_deep("x", "x", 9998)))), 20000)
        for term in (left_deep("x", "x", 10000), ("x", left_deep("x", "x", 9999))):
            with self.assertRaises(TooLarge):
                abstraction("x", term)


class PutTest(unittest.TestCase):
    def test_every_place(self):
        for term, argument, result in [("x", "SK", "SK"), ("xyx", "K", "KyK"),
                                       ("x(yx)(xx)", "SK", "SK(y(SK))(SK(SK))"),
                                       ("yx", "x", "yx"), ("xy", "xz", "xzy")]:
            made = put("x", parse_term(argument), parse_term(term))
            self.assertEqual(show_term(made), result)

    def test_a_variable_that_does_not_stand_in_the_term(self):
        for text in ["y", "S(KI)", "yz(SS)"]:
            self.assertEqual(show_term(put("x", parse_term("SK"), parse_term(text))), text)

    def test_the_greatest_size(self):
        argument = left_deep("S", "K", 99)
        self.assertEqual(size(put("x", argument, left_deep("x", "x", 199))), 20000)
        with self.assertRaises(TooLarge) as caught:
            put("x", argument, (left_deep("x", "x", 199), "S"))
        self.assertEqual(caught.exception.limit, 20000)
        self.assertEqual(size(put("x", "S", left_deep("x", "y", 19999))), 20000)
        with self.assertRaises(TooLarge):
            put("x", "S", left_deep("x", "y", 20000))

    def test_a_result_that_would_be_far_too_large(self):
        term = left_deep("x", "x", 19999)
        with self.assertRaises(TooLarge):
            put("x", term, term)


class VariablesTest(unittest.TestCase):
    def test_ascending_each_once(self):
        for text, expected in [("S", []), ("x", ["x"]), ("zSa(Kz)", ["a", "z"]),
                               ("S(KI)", []), ("c(b(a(bc)))", ["a", "b", "c"])]:
            self.assertEqual(variables(parse_term(text)), expected)

    def test_the_list_is_new(self):
        term = parse_term("xy")
        variables(term).append("z")
        self.assertEqual(variables(term), ["x", "y"])


class DeepTest(unittest.TestCase):
    def setUp(self):
        self.left = left_deep("y", "x", DEEP)
        self.right = right_deep("y", "x", DEEP)
        self.right_text = "y(" * (DEEP - 1) + "yx" + ")" * (DEEP - 1)

    def test_size_and_variables(self):
        for term in (self.left, self.right):
            self.assertEqual(size(term), DEEP + 1)
            self.assertEqual(variables(term), ["x", "y"])

    def test_texts(self):
        self.assertEqual(show_term(self.left), "y" + "x" * DEEP)
        self.assertTrue(show_term(self.right) == self.right_text)
        self.assertEqual(show_term(parse_term("y" + "x" * DEEP)), "y" + "x" * DEEP)
        self.assertTrue(show_term(parse_term(self.right_text)) == self.right_text)
        self.assertEqual(parse_term("(" * DEEP + "S" + ")" * DEEP), "S")

    def test_steps(self):
        self.assertTrue(show_term(MACHINE.step(left_deep("I", "S", DEEP))) == "S" * DEEP)
        self.assertIsNone(MACHINE.step(right_deep("K", "K", DEEP)))
        following = MACHINE.step(right_deep("K", parse_term("II"), DEEP))
        self.assertTrue(show_term(following) == show_term(right_deep("K", "I", DEEP)))
        following = MACHINE.step(right_deep("I", "S", DEEP))
        self.assertTrue(show_term(following) == show_term(right_deep("I", "S", DEEP - 1)))

    def test_abstraction_and_put(self):
        made = abstraction("x", right_deep("y", "x", 6000))
        self.assertTrue(show_term(made) == "S(Ky)(" * 5999 + "S(Ky)I" + ")" * 5999)
        made = abstraction("y", left_deep("y", "x", 6000))
        self.assertTrue(show_term(made) == "S(" * 5999 + "SI(Kx)" + ")(Kx)" * 5999)
        self.assertTrue(show_term(put("x", "S", self.left)) == "y" + "S" * DEEP)
        self.assertTrue(show_term(put("x", "S", self.right)) == self.right_text.replace("x", "S"))
