"""All examples of the interface, as they stand there."""

import unittest

EXAMPLES = r"""
>>> from translatory.fractions import Fractions
>>> from translatory.running import history
>>> history(Fractions([(3, 2)]), 12, 5)
[12, 18, 27]

>>> from translatory.registers import Registers
>>> from translatory.running import last
>>> last(Registers(1, [("inc", 0, 0)]), (0, (0,)), 100)
raises TooLong

>>> from translatory.turing import Turing, start
>>> from translatory.running import history
>>> history(Turing(1, 2, [(0, 1, 0, 1, 0)]), start((1, 1)), 9)
[(0, (), 1, (1,)), (0, (), 1, ()), (0, (), 0, ())]

>>> from translatory.turing import number_of, symbols_of
>>> [number_of((1, 0, 2), 3), symbols_of(19, 3)]
[19, (1, 0, 2)]

>>> from translatory.registers import Registers
>>> from translatory.running import last
>>> last(Registers(2, [("dec", 1, 1, 2), ("inc", 0, 0), ("end",)]), (0, (3, 4)), 100)
(2, (7, 0))

>>> from translatory.registers import Registers
>>> Registers(1, [("inc", 0, 1)])
raises InvalidMachine

>>> from translatory.tags import Tags
>>> from translatory.running import history
>>> history(Tags([(1, 1), None, (0,)]), (0, 2, 0, 0), 9)
[(0, 2, 0, 0), (0, 0, 1, 1), (1, 1, 1, 1)]

>>> from translatory.strings import Strings
>>> from translatory.running import history
>>> history(Strings([((2, 1), (1, 2)), ((2,), ())]), (2, 1, 1), 9)
[(2, 1, 1), (1, 2, 1), (1, 1, 2), (1, 1)]

>>> from translatory.combinators import Combinators, parse_term, show_term
>>> from translatory.running import history
>>> [show_term(term) for term in history(Combinators("SKI"), parse_term("S(KI)KS(IK)"), 9)]
['S(KI)KS(IK)', 'KIS(KS)(IK)', 'I(KS)(IK)', 'KS(IK)', 'S']

>>> from translatory.combinators import abstraction, parse_term, show_term
>>> show_term(abstraction("x", parse_term("y(xK)")))
'S(Ky)(SI(KK))'

>>> from translatory.turing import Turing
>>> from translatory.tapenumbers import TuringToRegisters
>>> translation = TuringToRegisters(Turing(1, 3, [(0, 1, 2, 1, 0)]))
>>> [translation.picture((0, (2, 1), 1, (1, 0, 2)))[1][:2], translation.read_back(translation.picture((0, (), 2, (1,))))]
[(5, 19), (0, (), 2, (1,))]

>>> from translatory.registers import Registers
>>> from translatory.twocounters import RegistersToCounters
>>> translation = RegistersToCounters(Registers(3, [("end",)]))
>>> translation.picture((0, (2, 1, 1)))[1]
(60, 0)

>>> from translatory.registers import Registers
>>> from translatory.fractionrun import RegistersToFractions
>>> translation = RegistersToFractions(Registers(2, [("dec", 1, 1, 2), ("inc", 0, 0), ("end",)]))
>>> [translation.cost((0, (3, 4))), translation.picture((0, (1, 2))) % 18]
[2, 0]

>>> from translatory.fractions import Fractions
>>> from translatory.fractionrun import FractionsToRegisters
>>> translation = FractionsToRegisters(Fractions([(10, 3), (1, 7)]))
>>> translation.picture(2 * 3 * 3 * 7)[1][:4]
(1, 2, 0, 1)

>>> from translatory.turing import Turing
>>> from translatory.binarytapes import TuringToBinary
>>> translation = TuringToBinary(Turing(1, 5, [(0, 4, 1, 1, 0)]))
>>> translation.picture((0, (3,), 4, (2,)))[1:]
((1, 1), 1, (0, 0, 0, 1))

>>> from translatory.turing import Turing
>>> from translatory.tagtapes import TuringToTags
>>> translation = TuringToTags(Turing(1, 2, [(0, 1, 1, -1, 0)]))
>>> len(translation.picture((0, (0, 1), 1, (1, 1))))
14

>>> from translatory.combinators import show_term
>>> from translatory.unary import unary, unary_value
>>> [show_term(unary(1)), unary_value(unary(3), 100)]
['S(S(KS)K)(KI)', 3]

>>> from translatory.combinators import Combinators, parse_term
>>> from translatory.withouti import WithoutI
>>> translation = WithoutI(Combinators("SI"))
>>> [translation.cost(parse_term("IS")), translation.cost(parse_term("SIII")), translation.target.letters]
[2, 1, 'SK']

>>> from translatory.turing import Turing
>>> from translatory.universal import ToUniversal, universal
>>> from translatory.following import answer_through
>>> machine = Turing(2, 2, [(0, 1, 1, 1, 0), (0, 0, 1, -1, 1)])
>>> [ToUniversal(machine).target == universal(), answer_through(ToUniversal(machine), (0, (), 1, (1,)), 100000)]
[True, (1, (1,), 1, (1,))]

>>> from translatory.recursive import value, applications
>>> add = ("repeat", ("arg", 1, 0), ("of", ("next",), (("arg", 3, 1),)))
>>> [value(add, (2, 3)), applications(add, (2, 3))]
[5, 8]

>>> from translatory.compiling import Compiled
>>> from translatory.recursive import named
>>> from translatory.running import last
>>> compiled = Compiled(named("times"))
>>> compiled.answer(last(compiled.machine, compiled.begin((3, 4)), 10000))
12

>>> from translatory.turing import Turing
>>> from translatory.papers import judge
>>> machine = Turing(1, 2, [(0, 0, 1, 1, 0)])
>>> judge(machine, (0, (), 0, ()), 10)
('loops', ('shift', 0, 1))

>>> from translatory.registers import Registers
>>> from translatory.papers import judge
>>> machine = Registers(2, [("dec", 0, 1, 2), ("inc", 1, 0), ("inc", 0, 0)])
>>> judge(machine, (0, (1, 0)), 10)
('loops', ('growth', 0, 4))

>>> from translatory.sessions import hold
>>> hold("load\nregisters 2\ndec 1 1 2\ninc 0 0\nend\n.\nset 0 : 3 4\nrun 900\nshow\njudge 5\nto strings")
['loaded registers', 'set', 'ran 9', '2 : 7 0', 'ends 0', 'no translation']

>>> from translatory.machinetext import parse_machine
>>> parse_machine("turing 1 2\n0 1 0 R 0\n0 0 1 L 0")
raises InvalidText

>>> from translatory.census import machine_at, index_of
>>> [machine_at(1, 45).rules, index_of(machine_at(2, 12345))]
[((0, 0, 0, 1, 0), (0, 1, 1, 1, 0)), 12345]

>>> from translatory.census import census
>>> census(1, 0, 6, 20)
(2, 5, 0, (1, 5), (1, 5))
"""


def told(lines):
    """What the last of some lines gives, or the error that it raises."""
    names = {}
    for line in lines[:-1]:
        exec(line, names)
    try:
        return repr(eval(lines[-1], names))
    except ValueError as error:
        return f"raises {type(error).__name__}"


class ExampleTest(unittest.TestCase):
    def test_examples(self):
        examples = EXAMPLES.strip().split("\n\n")
        self.assertEqual(len(examples), 27)
        for example in examples:
            lines = example.split("\n")
            code = [line.removeprefix(">>> ") for line in lines if line.startswith(">>> ")]
            expected = [line for line in lines if not line.startswith(">>> ")]
            self.assertEqual([told(code)], expected, example)
