"""Points 44 and 45: sessions."""

import unittest
from random import Random

from tests.samples import left_deep, right_deep
from translatory.combinators import Combinators, parse_term, show_term
from translatory.configtext import format_configuration
from translatory.errors import TooLarge
from translatory.machinetext import format_machine, parse_machine
from translatory.papers import judge
from translatory.registers import Registers, adding
from translatory.running import after
from translatory.sessions import hold
from translatory.stringtapes import TuringToStrings
from translatory.tagtapes import TuringToTags
from translatory.turing import Turing
from translatory.universal import ToUniversal

ADDING = "load\nregisters 2\ndec 1 1 2\ninc 0 0\nend\n."
WIPING = "load\nturing 1 2\n0 1 0 R 0\n."
KINDS = {
    "turing": (WIPING, "0 : - : 1 : 1"),
    "registers": (ADDING, "0 : 3 4"),
    "fractions": ("load\nfractions\n3 2\n.", "4"),
    "tags": ("load\ntags\nto 1 1\nnone\n.", "0 1"),
    "strings": ("load\nstrings\n1 to 2\n.", "1 1"),
    "combinators": ("load\ncombinators SI\n.", "SII(SI)"),
}
# The words that fit, and the kinds of the targets.
FITTING = {
    "turing": {"registers": "registers", "binary": "turing", "tags": "tags", "strings": "strings",
               "universal": "turing"},
    "registers": {"counters": "registers", "turing": "turing", "fractions": "fractions"},
    "fractions": {"registers": "registers"},
    "tags": {"turing": "turing"},
    "strings": {},
    "combinators": {"sk": "combinators"},
}
GROWING = "S(SS)(SS)(S(SS)(SS))(SS)(SII)"
WORDS = ["registers", "counters", "turing", "fractions", "binary", "tags", "strings", "universal", "sk"]


def session(*lines):
    return hold("\n".join(lines))


class LoadTest(unittest.TestCase):
    def test_each_kind(self):
        for kind, (load, _) in KINDS.items():
            self.assertEqual(session(load), [f"loaded {kind}"])

    def test_a_wrong_machine(self):
        for lines in ["", "turing 1", "registers 1", "turing 1 2\n", "\nturing 1 2", "turing 1 2 ", "Turing 1 2",
                      "registers 1\ninc 0 9", "fractions\n2 2", "combinators KS", "load", "set 0", "..", " ."]:
            self.assertEqual(session("load", lines, "."), ["bad machine"])
        self.assertEqual(session("load", "."), ["bad machine"])

    def test_lines_of_a_machine_are_no_commands(self):
        self.assertEqual(session("load", "load", "show", "run 3", "."), ["bad machine"])
        self.assertEqual(session("load", "turing 1 2", ".", "."), ["loaded turing", "bad line"])
        self.assertEqual(session("load", "turing 1 2", ". ", "."), ["bad machine"])

    def test_without_an_end(self):
        self.assertEqual(session("load"), [])
        self.assertEqual(session("load", "turing 1 2"), [])
        self.assertEqual(session("load", "turing 1 2", ""), [])
        self.assertEqual(session(ADDING, "set 0 : 1 1", "load", "turing 1 2", "show"), ["loaded registers", "set"])

    def test_a_loaded_machine_has_no_configuration(self):
        for command in ["show", "run 1", "judge 1", "to fractions"]:
            self.assertEqual(session(ADDING, command), ["loaded registers", "no machine"])
            self.assertEqual(session(ADDING, "set 0 : 1 1", ADDING, command),
                             ["loaded registers", "set", "loaded registers", "no machine"])

    def test_a_bad_machine_changes_nothing(self):
        self.assertEqual(session(ADDING, "set 0 : 1 1", "load", "x", ".", "show", "run 9", "show"),
                         ["loaded registers", "set", "bad machine", "0 : 1 1", "ran 3", "2 : 2 0"])


class CommandTest(unittest.TestCase):
    def test_set_and_show(self):
        for kind, (load, text) in KINDS.items():
            self.assertEqual(session(load, f"set {text}", "show", "show"), [f"loaded {kind}", "set", text, text])
        self.assertEqual(session(ADDING, "set 0 : 1 1", "set 1 : 5 6", "show"),
                         ["loaded registers", "set", "set", "1 : 5 6"])

    def test_configurations_that_are_none(self):
        for text in ["", " ", "0", "3 : 0 0", "0 : 0", "0 : 0 0 0", "0 : -", "0 :0 0", "0 : 0 0 ", " 0 : 0 0", "0 : 0 x",
                     "0 : 00 0", "S", "0 : - : 0 : -"]:
            self.assertEqual(session(ADDING, f"set {text}"), ["loaded registers", "bad line"])
            self.assertEqual(session(ADDING, "set 0 : 7 7", f"set {text}", "show"),
                             ["loaded registers", "set", "bad line", "0 : 7 7"])
        self.assertEqual(session(ADDING, "set"), ["loaded registers", "bad line"])

    def test_run(self):
        for count, steps, place in [(0, 0, "0 : 3 4"), (1, 1, "1 : 3 3"), (8, 8, "0 : 7 0"), (9, 9, "2 : 7 0"),
                                    (10, 9, "2 : 7 0"), (999, 9, "2 : 7 0")]:
            self.assertEqual(session(ADDING, "set 0 : 3 4", f"run {count}", "show", "run 0"),
                             ["loaded registers", "set", f"ran {steps}", place, "ran 0"])
        self.assertEqual(session(ADDING, "set 0 : 3 4", "run 2", "run 2", "show", "run 100", "run 100"),
                         ["loaded registers", "set", "ran 2", "ran 2", "0 : 5 2", "ran 5", "ran 0"])
        self.assertEqual(session("load", "registers 1", "inc 0 0", ".", "set 0 : 0", "run 999", "show"),
                         ["loaded registers", "set", "ran 999", "0 : 999"])

    def test_judge(self):
        self.assertEqual(session(ADDING, "set 0 : 3 4", "judge 9", "judge 8", "judge 0", "judge 300", "show"),
                         ["loaded registers", "set", "ends 9", "open", "open", "ends 9", "0 : 3 4"])
        self.assertEqual(session("load", "turing 1 2", "0 0 1 R 0", ".", "set 0 : - : 0 : -", "judge 10", "judge 0"),
                         ["loaded turing", "set", "loops shift 0 1", "open"])
        self.assertEqual(session("load", "registers 1", "inc 0 0", ".", "set 0 : 0", "judge 300"),
                         ["loaded registers", "set", "loops growth 0 1"])
        self.assertEqual(session("load", "tags", "to 0 0", ".", "set 0 0", "judge 300", "set 0", "judge 300"),
                         ["loaded tags", "set", "loops repeat 0 1", "set", "ends 0"])
        self.assertEqual(session("load", "fractions", "3 2", "2 3", ".", "set 12", "judge 3", "judge 2"),
                         ["loaded fractions", "set", "loops repeat 1 3", "open"])

    def test_to(self):
        for kind, (load, text) in KINDS.items():
            for word in WORDS:
                target = FITTING[kind].get(word)
                replies = session(load, f"set {text}", f"to {word}", "show")
                self.assertEqual(replies[:2], [f"loaded {kind}", "set"])
                if target is None:
                    self.assertEqual(replies[2:], ["no translation", text], (kind, word))
                else:
                    self.assertEqual(replies[2], f"now {target}", (kind, word))
                    self.assertNotIn(replies[3], ("no machine", "too large"))

    def test_pictures(self):
        machine = Turing(1, 2, [(0, 1, 0, 1, 0)])
        begin = (0, (), 1, (1,))
        for word, make in [("universal", ToUniversal), ("tags", TuringToTags), ("strings", TuringToStrings)]:
            translation = make(machine)
            picture = translation.picture(begin)
            self.assertEqual(session(WIPING, "set 0 : - : 1 : 1", f"to {word}", "show", "run 2", "show")[3:],
                             [format_configuration(translation.target, picture), "ran 2",
                              format_configuration(translation.target, after(translation.target, picture, 2))])
        self.assertEqual(session(ADDING, "set 1 : 2 1", "to counters", "show"),
                         ["loaded registers", "set", "now registers", "1 : 12 0"])
        self.assertEqual(session(ADDING, "set 1 : 2 1", "to turing", "show"),
                         ["loaded registers", "set", "now turing", "1 : 1 1 : 2 : 1"])
        self.assertEqual(session(*KINDS["tags"][0].split("\n"), "set 0 1", "to turing", "show"),
                         ["loaded tags", "set", "now turing", "0 : - : 1 : 2"])
        self.assertEqual(session(*KINDS["fractions"][0].split("\n"), "set 12", "to registers", "show"),
                         ["loaded fractions", "set", "now registers", "0 : 2 1"])
        self.assertEqual(session(*KINDS["combinators"][0].split("\n"), "set SI(SI)", "to sk", "show"),
                         ["loaded combinators", "set", "now combinators", "S(SKK)(S(SKK))"])
        self.assertEqual(session("load", "turing 1 5", ".", "set 0 : 3 : 4 : 2", "to binary", "show"),
                         ["loaded turing", "set", "now turing", "0 : 1 1 : 1 : 0 0 0 1"])

    def test_translations_one_after_another(self):
        replies = session(ADDING, "set 0 : 1 1", "to fractions", "to registers", "run 999", "judge 5", "to counters",
                          "to registers", "to turing", "show")
        self.assertEqual(replies[:4], ["loaded registers", "set", "now fractions", "now registers"])
        self.assertEqual(replies[5:], ["ends 0", "now registers", "no translation", "now turing", replies[-1]])

    def test_the_example_of_the_interface(self):
        text = ("load\nregisters 2\ndec 1 1 2\ninc 0 0\nend\n.\nset 0 : 3 4\nrun 900\nshow\njudge 5\nto strings")
        self.assertEqual(hold(text), ["loaded registers", "set", "ran 9", "2 : 7 0", "ends 0", "no translation"])


class BadLineTest(unittest.TestCase):
    LINES = ["", " ", "x", ".", "..", "SHOW", "Show", "show ", " show", "show 1", "showx", "load ", " load", "load x", "loads",
             "run", "run ", "run x", "run -1", "run +1", "run 1 ", "run  1", " run 1", "run 1 1", "run 00", "run 01", "run 007",
             "run 1000", "run 0000", "run 99999", "run 1.0", "RUN 1", "runs 1", "judge", "judge ", "judge x", "judge -1",
             "judge 00", "judge 01", "judge 1000", "judge 301", "judge 999", "judge 1 1", "judge  1", "Judge 1", "to", "to ",
             "to x", "to Registers", "to registers ", "to  registers", "to registers x", " to tags", "to universal machine",
             "to SK", "to shift", "to register", "setx", "sets 0", "end", "registers 2", "#", "quit", "1", "-"]

    def test_with_and_without_a_machine(self):
        for line in self.LINES:
            self.assertEqual(session(line), ["bad line"], line)
            self.assertEqual(session(ADDING, line), ["loaded registers", "bad line"], line)
            self.assertEqual(session(ADDING, "set 0 : 1 1", line, "show", "run 9"),
                             ["loaded registers", "set", "bad line", "0 : 1 1", "ran 3"], line)

    def test_numbers_at_the_limits(self):
        self.assertEqual(session(ADDING, "set 0 : 1 1", "judge 300", "judge 301", "run 999", "run 1000", "run 0", "judge 0"),
                         ["loaded registers", "set", "ends 3", "bad line", "ran 3", "bad line", "ran 0", "ends 0"])

    def test_empty_lines(self):
        self.assertEqual(hold(""), ["bad line"])
        self.assertEqual(hold("\n"), ["bad line"] * 2)
        self.assertEqual(hold("\n\nload\nturing 1 2\n.\n\n"), ["bad line"] * 2 + ["loaded turing"] + ["bad line"] * 2)


class ErrorOrderTest(unittest.TestCase):
    def test_no_machine(self):
        for line in ["show", "run 0", "run 999", "judge 0", "judge 300", *[f"to {word}" for word in WORDS],
                     "set 0 : 1 1", "set x", "set  ", "set -", "set S(KI)"]:
            self.assertEqual(session(line, line), ["no machine"] * 2, line)
        self.assertEqual(session("load", "x", ".", "set 0 : 1 1", "show"), ["bad machine", "no machine", "no machine"])

    def test_bad_line_before_no_machine(self):
        self.assertEqual(session("run 1000", "judge 301", "to x", "run 01"), ["bad line"] * 4)
        self.assertEqual(session(ADDING, "run 1000", "judge 301", "to x"), ["loaded registers"] + ["bad line"] * 3)

    def test_no_machine_before_no_translation(self):
        self.assertEqual(session(ADDING, "to strings", "to sk"), ["loaded registers", "no machine", "no machine"])

    def test_translations_that_refuse(self):
        for lines, begin, word in [
                ("turing 1 2", "0 : - : 0 : -", "sk"), ("turing 41 2", "0 : - : 0 : -", "universal"),
                ("turing 1 3", "0 : - : 0 : -", "universal"), ("turing 1 3", "0 : - : 0 : -", "tags"),
                ("turing 401 2", "0 : - : 0 : -", "tags"), ("turing 61 2", "0 : - : 0 : -", "binary"),
                ("turing 1 21", "0 : - : 0 : -", "strings"), ("turing 1 9", "0 : - : 0 : -", "registers"),
                ("registers 3\nend", "0 : 0 0 0", "turing"), ("registers 9\nend", "0 : " + "0 " * 8 + "0", "counters"),
                ("registers 31\nend", "0 : " + "0 " * 30 + "0", "fractions"), ("fractions\n1000001 2", "1", "registers"),
                # The integer has no picture.
                ("fractions\n3 2", "5", "registers"), ("fractions", "2", "registers"),
                ("combinators SKI", "S", "sk")]:
            self.assertEqual(session("load", lines, ".", f"set {begin}", f"to {word}", "show", "run 0")[1:],
                             ["set", "no translation", begin, "ran 0"], (lines, word))

    def test_too_large(self):
        # Pictures.
        for lines, begin, word in [
                ("registers 2\nend", "0 : 100000 1", "turing"), ("registers 2\nend", "0 : 100000 1", "counters"),
                ("registers 2\nend", "0 : 1 100000", "fractions"), ("turing 1 2", "0 : " + "1 " * 17 + "1 : 0 : -", "tags"),
                ("combinators SI", "S" + "I" * 6667, "sk")]:
            self.assertEqual(session("load", lines, ".", f"set {begin}", f"to {word}", "run 0", "show")[1:],
                             ["set", "too large", "ran 0", begin], (lines[:20], word))
        # Integers that are too long to be shown.
        self.assertEqual(session("load", "fractions", "10 1", ".", "set 1", "run 999", "run 999", "run 999", "run 999", "run 3",
                                 "show", "run 1", "show", "judge 1")[6:], ["ran 3", "1" + "0" * 3999, "ran 1", "too large", "open"])
        self.assertEqual(session("load", "registers 1", "end", ".", f"set 0 : {'9' * 4000}", "show")[2:],
                         [f"0 : {'9' * 4000}"])

    def test_steps_that_are_refused(self):
        machine = Combinators("SI")
        term = parse_term(GROWING)
        steps = 0
        with self.assertRaises(TooLarge):
            while True:
                term = machine.step(term)
                steps += 1
        self.assertEqual(session("load", "combinators SI", ".", f"set {GROWING}", f"run {steps - 5}", "run 6",
                                 "judge 300", "judge 4", "run 5", "run 1", "run 0", "judge 1")[2:],
                         [f"ran {steps - 5}", "too large", "too large", "open", "ran 5", "too large", "ran 0",
                          "too large"])

    def test_the_session_stays_as_it_was(self):
        lines = ["load", "combinators SI", ".", f"set {GROWING}", "run 700"]
        before = session(*lines, "show")[-1]
        self.assertEqual(session(*lines, "run 999", "judge 300", "to registers", "to x", "", "set x", "load", ".", "show")[3:],
                         ["too large", "too large", "no translation", "bad line", "bad line", "bad line", "bad machine",
                          before])


class LongTest(unittest.TestCase):
    def test_thousands_of_commands(self):
        lines = [ADDING, "set 0 : 0 3000"] + ["run 2", "show", "judge 1", "x", "to sk"] * 2000
        replies = session(*lines)
        self.assertEqual(len(replies), 10002)
        self.assertEqual(replies[-5:], ["ran 2", "0 : 2000 1000", "open", "bad line", "no translation"])

    def test_thousands_of_machines(self):
        self.assertEqual(session(*[WIPING, "set 0 : - : 1 : -", "to tags"] * 1000),
                         ["loaded turing", "set", "now tags"] * 1000)

    def test_a_long_machine(self):
        program = Registers(2, [("inc", 0, place) for place in range(1, 5000)] + [("end",)])
        replies = session("load", format_machine(program), ".", "set 0 : 0 0", *["run 999"] * 6, "show")
        self.assertEqual(replies[-3:], ["ran 999", "ran 4", "4999 : 4999 0"])

    def test_terms_that_go_deep(self):
        for term in [left_deep("S", "K", 9000), right_deep("S", "K", 9000)]:
            text = show_term(term)
            self.assertTrue(session("load", "combinators SK", ".", f"set {text}", "show", "judge 0")[2] == text)

    def test_against_the_functions(self):
        random = Random(45)
        for _ in range(100):
            rules = [(state, symbol, random.randrange(2), random.randrange(-1, 2), random.randrange(2))
                     for state in range(2) for symbol in range(2) if random.random() < 0.8]
            machine = Turing(2, 2, rules)
            count, limit = random.randrange(20), random.randrange(20)
            place = after(machine, (0, (), 1, ()), count)
            told = judge(machine, place, limit)
            words = {"ends": lambda: f"ends {told[1]}", "open": lambda: "open",
                     "loops": lambda: f"loops {told[1][0]} {told[1][1]} {told[1][2]}"}
            replies = session("load", format_machine(machine), ".", "set 0 : - : 1 : -", f"run {count}", "show",
                              f"judge {limit}")
            self.assertEqual(replies[3:], [format_configuration(machine, place), words[told[0]]()])
        self.assertEqual(parse_machine("\n".join(ADDING.split("\n")[1:-1])), adding())
