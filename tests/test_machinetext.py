"""Points 41 and 42: machines as texts."""

import unittest
from random import Random

from tests.alike import some_program, some_turing, turing_of_size
from translatory.combinators import Combinators
from translatory.compiling import Compiled
from translatory.errors import InvalidText, TooLarge
from translatory.fractions import Fractions
from translatory.machinetext import format_machine, parse_machine
from translatory.recursive import named
from translatory.registers import Registers, adding
from translatory.strings import Strings
from translatory.tags import Tags
from translatory.turing import Turing
from translatory.universal import universal

THIRTY = 10 ** 30 - 1

TEXTS = [
    (Turing(1, 2, []), "turing 1 2"),
    (Turing(12, 3, [(11, 2, 0, -1, 10), (0, 0, 1, 1, 0), (0, 1, 2, 0, 3)]),
     "turing 12 3\n0 0 1 R 0\n0 1 2 S 3\n11 2 0 L 10"),
    (adding(), "registers 2\ndec 1 1 2\ninc 0 0\nend"),
    (Registers(2000, [("end",)]), "registers 2000\nend"),
    (Fractions([]), "fractions"),
    (Fractions([(3, 2), (1, 10), (15, 1)]), "fractions\n3 2\n1 10\n15 1"),
    (Tags([]), "tags"),
    (Tags([(1, 1), None, (0,), ()]), "tags\nto 1 1\nnone\nto 0\nto"),
    (Strings([]), "strings"),
    (Strings([((2, 1), (1, 2)), ((2,), ()), ((0, 10), (7,))]), "strings\n2 1 to 1 2\n2 to\n0 10 to 7"),
    (Combinators("S"), "combinators S"),
    (Combinators("IK"), "combinators KI"),
    (Combinators("KIS"), "combinators SKI"),
]


class FormatTest(unittest.TestCase):
    def test_word_by_word(self):
        for machine, text in TEXTS:
            self.assertEqual(format_machine(machine), text)

    def test_integers_of_many_digits(self):
        for digits in (30, 31, 4000):
            number = 10 ** (digits - 1)
            self.assertEqual(format_machine(Fractions([(number, 3)])), f"fractions\n1{'0' * (digits - 1)} 3")
            self.assertEqual(format_machine(Strings([((number,), (0,))])), f"strings\n1{'0' * (digits - 1)} to 0")
        self.assertEqual(format_machine(Fractions([(10 ** 4000 - 1, 10)])), f"fractions\n{'9' * 4000} 10")
        for number in (10 ** 4000, 10 ** 4001, 10 ** 4299, 10 ** 4300, 10 ** 4301, 10 ** 9000, 2 ** 14001):
            for machine in [Fractions([(number, 7)]), Fractions([(7, number)]), Fractions([(3, 2), (number, 7)]),
                            Strings([((number,), ())]), Strings([((1,), (0, number))])]:
                with self.assertRaises(TooLarge) as caught:
                    format_machine(machine)
                self.assertEqual(caught.exception.limit, 4000)

    def test_all_numbers_of_bits_near_the_limit(self):
        # 10 to the power of 4000 has 13288 bits.
        for bits in range(13280, 13300):
            number = 2 ** bits + 1
            is_small = number < 10 ** 4000
            machine = Fractions([(number, 2)])
            if is_small:
                self.assertEqual(format_machine(machine), f"fractions\n{number} 2")
            else:
                self.assertRaises(TooLarge, format_machine, machine)


class ParseTest(unittest.TestCase):
    def wrong(self, line, text):
        with self.assertRaises(InvalidText, msg=text) as caught:
            parse_machine(text)
        self.assertEqual(caught.exception.line, line, text)

    def test_word_by_word(self):
        for machine, text in TEXTS:
            self.assertEqual(parse_machine(text), machine)

    def test_there_and_back(self):
        random = Random(41)
        machines = [turing_of_size(20, 20), universal(), Compiled(named("root")).machine]
        for _ in range(60):
            machines.append(some_turing(random, random.randint(1, 12), random.randint(2, 12)))
            machines.append(some_program(random, random.randint(1, 12), random.randint(1, 30)))
            machines.append(Fractions([(7 ** random.randint(0, 9), 10 ** random.randint(1, 9)) for _ in range(9)]))
            machines.append(Tags([random.choice([None, (), (0, 4), (random.randrange(5),) * 3]) for _ in range(5)]))
            machines.append(Strings([((random.randrange(12),) * random.randint(1, 3), (11, 0)) for _ in range(5)]))
        for machine in machines:
            self.assertEqual(parse_machine(format_machine(machine)), machine)

    def test_the_example_of_the_interface(self):
        self.wrong(3, "turing 1 2\n0 1 0 R 0\n0 0 1 L 0")

    def test_empty_lines_and_newlines(self):
        self.wrong(1, "")
        self.wrong(1, "\n")
        for _, text in TEXTS:
            lines = text.split("\n")
            self.wrong(len(lines) + 1, text + "\n")
            self.wrong(len(lines) + 1, text + "\n\n")
            self.wrong(1, "\n" + text)
            for index in range(1, len(lines)):
                self.wrong(index + 1, "\n".join(lines[:index] + [""] + lines[index:]))

    def test_spaces(self):
        for _, text in TEXTS:
            lines = text.split("\n")
            for index, line in enumerate(lines):
                for changed in [" " + line, line + " ", line.replace(" ", "  ", 1), line.replace(" ", "\t", 1)]:
                    if changed != line:
                        self.wrong(index + 1, "\n".join(lines[:index] + [changed] + lines[index + 1:]))

    def test_a_word_too_many_or_too_few(self):
        for machine, text in TEXTS:
            lines = text.split("\n")
            for index, line in enumerate(lines):
                changed = [line + " x"]
                if not isinstance(machine, (Tags, Strings)) or index == 0:
                    changed += [line + " 0", line + " 1", "0 " + line]
                if isinstance(machine, (Turing, Registers, Fractions, Combinators)) and " " in line:
                    changed += [line.rsplit(" ", 1)[0], line.split(" ", 1)[1]]
                for other in changed:
                    self.wrong(index + 1, "\n".join(lines[:index] + [other] + lines[index + 1:]))

    def test_unknown_words(self):
        for text in ["Turing 1 2", "TURING 1 2", "turin 1 2", "turings 1 2", "register 1\nend", "fraction", "tag", "string",
                     "combinator S", "1", "0 0", ".", "x", "end", "none", "turing", "turing 1", "turing 1 2 3", "turing a 2",
                     "turing 1 b", "turing 1,2", "registers", "registers x\nend", "registers 1 1\nend", "fractions 1",
                     "fractions x", "tags 1", "strings 0", "combinators", "load", "fractions 3 2"]:
            self.wrong(1, text)
        self.wrong(2, "registers 1\nadd 0 0")
        self.wrong(2, "registers 1\nINC 0 0")
        self.wrong(2, "registers 1\nend 0")
        self.wrong(2, "registers 1\ninc 0")
        self.wrong(2, "registers 1\ninc 0 0 0")
        self.wrong(2, "registers 1\ndec 0 0")
        self.wrong(2, "registers 1\ndec 0 0 0 0")
        self.wrong(2, "tags\nNone")
        self.wrong(2, "tags\nnone none")
        self.wrong(2, "tags\nnone 0")
        self.wrong(2, "tags\n0")
        self.wrong(2, "tags\n0 to")
        self.wrong(2, "tags\nto none")
        self.wrong(2, "tags\nto to 0")
        self.wrong(2, "strings\n0 1")
        self.wrong(2, "strings\nto")
        self.wrong(2, "strings\nto 0")
        self.wrong(2, "strings\n0 to 1 to 2")
        self.wrong(2, "strings\n0 to x")
        self.wrong(2, "strings\n- to 0")
        self.wrong(2, "strings\n0 TO 0")
        self.wrong(2, "fractions\n3/2")
        self.wrong(2, "fractions\n3 to 2")

    def test_moves(self):
        for move, number in [("L", -1), ("S", 0), ("R", 1)]:
            self.assertEqual(parse_machine(f"turing 1 2\n0 0 1 {move} 0").rules, ((0, 0, 1, number, 0),))
        for move in ["l", "s", "r", "N", "-1", "0", "1", "LR", "LS", "", "X"]:
            self.wrong(2, f"turing 1 2\n0 0 1 {move} 0")

    def test_integers(self):
        for wrong in ["00", "01", "007", "+1", "-1", "-0", "1.0", "1e3", "0x1", "1_0", "a", "1a", "--1", "1-", "I"]:
            self.wrong(1, f"turing {wrong} 2")
            self.wrong(1, f"registers {wrong}\nend")
            self.wrong(2, f"turing 9 2\n{wrong} 0 0 L 0\n1 1 1 L 0")
            self.wrong(2, f"turing 9 2\n0 0 0 L {wrong}")
            self.wrong(2, f"registers 9\ninc {wrong} 0\nend")
            self.wrong(3, f"fractions\n3 2\n{wrong} 2\n5 2")
            self.wrong(3, f"tags\nto 0\nto 0 {wrong}\nto 1")
            self.wrong(2, f"strings\n{wrong} to 0\n1 to 1")
            self.wrong(2, f"strings\n0 to 0 {wrong}\n1 to 1")

    def test_thirty_digits(self):
        self.assertEqual(parse_machine(f"fractions\n{THIRTY} 2"), Fractions([(THIRTY, 2)]))
        self.assertEqual(parse_machine(f"strings\n{THIRTY} to {10 ** 29}"), Strings([((THIRTY,), (10 ** 29,))]))
        for more in (10 ** 30, 10 ** 31, 10 ** 3999, "0" * 31, "0" * 30 + "1", "9" * 5000):
            self.wrong(2, f"fractions\n{more} 3\n5 2")
            self.wrong(2, f"strings\n1 to {more}\n1 to 1")
            self.wrong(1, f"turing {more} 2\n0 0 0 L 0")
            self.wrong(1, f"registers {more}\nend")
            self.wrong(2, f"registers 1\ninc 0 {more}\nend")
            self.wrong(2, f"tags\nto {more}\nnone")
            self.wrong(2, f"turing 1 2\n{more} 0 0 L 0\n0 0 0 L 0")

    def test_the_order_of_the_rules_of_a_turing_machine(self):
        for first, second in [("1 0 0 R 0", "0 0 0 R 0"), ("0 1 0 R 0", "0 0 1 R 1"), ("0 0 0 R 0", "0 0 0 R 0"),
                              ("0 0 1 L 0", "0 0 0 R 0"), ("0 0 0 S 0", "0 0 0 L 0"), ("0 0 0 R 0", "0 0 0 S 0"),
                              ("0 0 0 R 0", "0 0 0 L 1"), ("0 0 0 R 1", "0 0 0 R 0"), ("10 0 0 R 0", "9 0 0 R 0")]:
            self.wrong(3, f"turing 20 2\n{first}\n{second}")
            self.wrong(3, f"turing 20 2\n{first}\n{second}\n19 0 0 R 0")
        self.wrong(4, "turing 20 2\n0 0 0 L 0\n5 0 0 R 0\n4 0 0 R 0")
        self.assertEqual(len(parse_machine("turing 11 2\n9 0 0 R 0\n10 0 0 R 0").rules), 2)
        # Ascending, but two for the same state and symbol: the whole is wrong.
        for second in ["0 0 0 S 0", "0 0 0 L 1", "0 0 1 L 0"]:
            self.wrong(3, f"turing 2 2\n0 0 0 L 0\n{second}")
            self.wrong(4, f"turing 2 2\n0 0 0 L 0\n{second}\n1 0 0 L 0")

    def test_a_whole_that_breaks_a_rule(self):
        for line, text in [
                (1, "turing 0 2"), (1, "turing 20001 2"), (1, "turing 1 1"), (1, "turing 1 0"), (1, "turing 1 401"),
                (2, "turing 0 2\n0 0 0 L 0"), (2, "turing 1 2\n1 0 0 L 0"), (2, "turing 1 2\n0 2 0 L 0"),
                (3, "turing 1 2\n0 0 2 L 0\n0 1 0 L 0"), (3, "turing 1 2\n0 0 0 L 1\n0 1 0 L 0"),
                (1, "registers 1"), (2, "registers 0\nend"), (2, "registers 2001\nend"),
                (3, "registers 1\ninc 1 0\nend"), (3, "registers 1\ninc 0 2\nend"), (3, "registers 1\ndec 0 0 2\nend"),
                (2, "fractions\n2 2"), (4, "fractions\n3 2\n1 1\n5 2"), (3, "fractions\n0 1\n3 2"),
                (3, "fractions\n1 0\n3 2"), (3, "fractions\n6 4\n3 2"), (2, "tags\nto 1"), (3, "tags\nto 2\nnone"),
                (4, "tags\nto 0\nto 3\nto 0")]:
            self.wrong(line, text)
        self.wrong(100002, "registers 1" + "\nend" * 100001)
        self.assertEqual(len(parse_machine("registers 1" + "\nend" * 100000).instructions), 100000)

    def test_letters(self):
        for letters in ["", "X", "SS", "KS", "IK", "IS", "SIK", "s", "sk", "SKIS", "S K", "SK I", "SKX", "1"]:
            self.wrong(1, f"combinators {letters}")
            self.wrong(1, f"combinators {letters}\nS")
        for letters in ["S", "K", "I", "SK", "SI", "KI", "SKI"]:
            self.assertEqual(parse_machine(f"combinators {letters}"), Combinators(letters))
            for more in ["", "S", "combinators S", "0"]:
                self.wrong(2, f"combinators {letters}\n{more}")
                self.wrong(2, f"combinators {letters}\n{more}\n{more}")

    def test_the_first_of_several_wrong_lines(self):
        self.wrong(2, "turing 0 2\nx\n0 0 0 L 0")
        self.wrong(1, "turing x 2\nx")
        self.wrong(3, "registers 0\ninc 0 0\ninc\nend x\ninc 9 9")
        self.wrong(2, "fractions\n1\n1")
        self.wrong(3, "tags\nto 9\nto x\nto -")
        self.wrong(4, "turing 1 2\n0 0 9 L 9\n0 1 0 L 0\n0 0 0 L 0\nx")
        self.wrong(3, "strings\n0 to 0\nto\nto")
