"""Point 43: configurations as texts."""

import unittest
from random import Random

from tests.alike import some_program, some_tape, some_turing, some_values
from tests.samples import left_deep, right_deep
from translatory.combinators import Combinators, parse_term, show_term
from translatory.configtext import format_configuration, parse_configuration
from translatory.errors import InvalidText, TooLarge
from translatory.fractions import Fractions
from translatory.registers import Registers
from translatory.strings import Strings
from translatory.tags import Tags
from translatory.turing import Turing

TURING = Turing(12, 11, [])
PROGRAM = Registers(3, [("end",)] * 12)
FRACTIONS = Fractions([(3, 2)])
TAGS = Tags([(0,)] * 11)
STRINGS = Strings([((1,), (2,))])
TERMS = Combinators("SKI")

TEXTS = [
    (TURING, (0, (), 0, ()), "0 : - : 0 : -"),
    (TURING, (11, (0, 10), 3, (1,)), "11 : 0 10 : 3 : 1"),
    (TURING, (1, (), 10, (0, 0, 2)), "1 : - : 10 : 0 0 2"),
    (TURING, (1, (1, 2, 3), 0, ()), "1 : 1 2 3 : 0 : -"),
    (PROGRAM, (0, (0, 0, 0)), "0 : 0 0 0"),
    (PROGRAM, (11, (12, 0, 345)), "11 : 12 0 345"),
    (Registers(1, [("end",)]), (0, (7,)), "0 : 7"),
    (FRACTIONS, 1, "1"),
    (FRACTIONS, 12345678901234567890, "12345678901234567890"),
    (TAGS, (), "-"),
    (TAGS, (10,), "10"),
    (TAGS, (0, 10, 3), "0 10 3"),
    (STRINGS, (), "-"),
    (STRINGS, (99, 0, 10 ** 40), "99 0 1" + "0" * 40),
    (TERMS, "S", "S"),
    (TERMS, ("S", ("K", "I")), "S(KI)"),
    (TERMS, ((("S", "K"), ("I", "I")), ("S", ("K", "K"))), "SK(II)(S(KK))"),
]


class FormatTest(unittest.TestCase):
    def test_word_by_word(self):
        for machine, configuration, text in TEXTS:
            self.assertEqual(format_configuration(machine, configuration), text)

    def test_integers_of_many_digits(self):
        most = 10 ** 4000 - 1
        self.assertEqual(format_configuration(FRACTIONS, most), "9" * 4000)
        self.assertEqual(format_configuration(PROGRAM, (0, (1, most, 2))), f"0 : 1 {'9' * 4000} 2")
        self.assertEqual(format_configuration(STRINGS, (1, most)), "1 " + "9" * 4000)
        for number in (10 ** 4000, 10 ** 4200, 10 ** 4300, 10 ** 10000):
            for machine, configuration in [(FRACTIONS, number), (PROGRAM, (0, (1, number, 2))), (STRINGS, (1, number))]:
                with self.assertRaises(TooLarge) as caught:
                    format_configuration(machine, configuration)
                self.assertEqual(caught.exception.limit, 4000)


class ParseTest(unittest.TestCase):
    def wrong(self, machine, *texts):
        for text in texts:
            with self.assertRaises(InvalidText, msg=text[:100]) as caught:
                parse_configuration(machine, text)
            self.assertEqual(caught.exception.line, 1)

    def test_word_by_word(self):
        for machine, configuration, text in TEXTS:
            self.assertEqual(parse_configuration(machine, text), configuration)

    def test_there_and_back(self):
        random = Random(43)
        for _ in range(200):
            machine = some_turing(random, random.randint(1, 12), random.randint(2, 12))
            program = some_program(random, random.randint(1, 5), random.randint(1, 12))
            for kind, configuration in [
                    (machine, some_tape(random, machine, 6)), (program, some_values(random, program, 40)),
                    (FRACTIONS, random.randint(1, 10 ** 9)),
                    (TAGS, tuple(random.randrange(11) for _ in range(random.randint(0, 6)))),
                    (STRINGS, tuple(random.randrange(20) for _ in range(random.randint(0, 6))))]:
                text = format_configuration(kind, configuration)
                self.assertEqual(parse_configuration(kind, text), configuration)

    def test_spaces_and_lines(self):
        for machine, _, text in TEXTS:
            self.wrong(machine, "", " ", "\n", text + " ", " " + text, text + "\n", "\n" + text, text + "\n" + text)
            for index, sign in enumerate(text):
                if sign == " ":
                    self.wrong(machine, text[:index] + " " + text[index:], text[:index] + "\n" + text[index + 1:])

    def test_integers(self):
        for wrong in ["00", "01", "+1", "-1", "-0", "--", "1.0", "a", "0x1", "1_0", "S", "", "1,2"]:
            self.wrong(TURING, f"{wrong} : - : 0 : -", f"0 : {wrong} : 0 : -", f"0 : - : {wrong} : -",
                       f"0 : - : 0 : {wrong}", f"0 : - : 0 : {wrong} 1", f"0 : {wrong} 1 : 0 : -")
            self.wrong(PROGRAM, f"{wrong} : 0 0 0", f"0 : {wrong} 0 0", f"0 : 0 0 {wrong}")
            self.wrong(FRACTIONS, wrong)
            self.wrong(TAGS, wrong, f"{wrong} 0", f"0 {wrong}")
            self.wrong(STRINGS, wrong, f"{wrong} 0", f"0 {wrong}")

    def test_integers_of_many_digits(self):
        most = "9" * 4000
        self.assertEqual(parse_configuration(FRACTIONS, most), 10 ** 4000 - 1)
        self.assertEqual(parse_configuration(PROGRAM, f"0 : 1 {most} 2"), (0, (1, 10 ** 4000 - 1, 2)))
        self.assertEqual(parse_configuration(STRINGS, f"{most} 1"), (10 ** 4000 - 1, 1))
        for more in ["1" + "0" * 4000, "9" * 4001, "9" * 5000, "0" * 4001, "0" + most]:
            self.wrong(FRACTIONS, more)
            self.wrong(PROGRAM, f"0 : 1 {more} 2", f"{more} : 0 0 0")
            self.wrong(STRINGS, f"{more} 1")
            self.wrong(TURING, f"{more} : - : 0 : -")
        self.wrong(PROGRAM, f"{most} : 0 0 0")
        self.wrong(TAGS, most)

    def test_forms_of_a_tape(self):
        self.wrong(TURING, "0 : - : 0", "0 : - : 0 : - : -", "0 : - : 0 : - :", "0 - 0 -", "0:-:0:-", "0 : -: 0 : -",
                   "0 : - :0 : -", "- : - : 0 : -", "0 : - : - : -", "0 : : 0 : -", "0 :  : 0 : -", "0 : - : 0 : ",
                   "0 : - : 0 :", "0 : - : 0 1 : -", "0 1 : - : 0 : -", "0 : - - : 0 : -", "0 : - 1 : 0 : -",
                   "0 : 1 - : 0 : -", "0 : - : : 0 : -", ": - : 0 : -", "0", "-", "(0, (), 0, ())")

    def test_forms_of_values(self):
        self.wrong(PROGRAM, "0 : 0 0", "0 : 0 0 0 0", "0 : -", "0 :", "0 : ", "0", "0 0 0 0", "0:0 0 0", "0 : 0 : 0 : 0",
                   "0 : 0 0 0 :", "- : 0 0 0", ": 0 0 0", "0 : 0 0 -", "0 : 0,0,0", "0 1 : 0 0 0")

    def test_no_configurations_of_the_machine(self):
        self.wrong(TURING, "12 : - : 0 : -", "0 : - : 11 : -", "0 : 11 : 0 : -", "0 : - : 0 : 11", "0 : 0 : 0 : -",
                   "0 : 1 0 : 0 : -", "0 : - : 0 : 0", "0 : - : 0 : 1 0", "0 : 11 1 : 0 : -")
        self.wrong(PROGRAM, "12 : 0 0 0", "100 : 0 0 0")
        self.wrong(FRACTIONS, "0", "-", "1 1", "1 : 1")
        self.wrong(TAGS, "11", "0 11", "11 0", "- -", "- 0", "0 -", "0 : 0")
        self.wrong(Tags([]), "0")
        self.assertEqual(parse_configuration(Tags([]), "-"), ())
        self.wrong(STRINGS, "- -", "- 0", "0 -", "0 : 0")

    def test_terms(self):
        self.wrong(TERMS, "", "-", "()", "(S)", "(SK)", "(SK)I", "S(K)", "S((KI))", "S K", "S (KI)", "S(KI) ", "S(KI",
                   "S(KI))", ")S(", "SKx", "x", "s", "SKB", "S.K", "S1", "S(K)(I)", "0", "S\nK")
        for letters, right, wrong in [("S", "SS(SS)", "SK"), ("SK", "S(KS)", "S(KI)"), ("KI", "K(KI)", "K(SI)"),
                                      ("I", "I(II)", "IK")]:
            machine = Combinators(letters)
            self.assertEqual(show_term(parse_configuration(machine, right)), right)
            self.wrong(machine, wrong)

    def test_large_terms(self):
        for term in [left_deep("S", "K", 19999), right_deep("S", "K", 19999)]:
            text = show_term(term)
            self.assertTrue(format_configuration(TERMS, term) == text)
            self.assertTrue(show_term(parse_configuration(TERMS, text)) == text)
        for term in [left_deep("S", "K", 20000), right_deep("S", "K", 20000), left_deep("S", "K", 50000)]:
            self.wrong(TERMS, show_term(term))
        # A term that is only written with too many brackets.
        self.wrong(TERMS, "(" * 5000 + "S" + ")" * 5000)
        self.assertEqual(parse_configuration(TERMS, "SKK"), parse_term("SKK"))
