"""Turing machines with two symbols as tag systems, and tag systems as Turing machines."""

from translatory.errors import NotFitting
from translatory.limits import refuse_large
from translatory.numbering import Numbering, numbered_rules
from translatory.tags import Tags
from translatory.turing import BLANK, Turing, number_of, symbols_of

MOST_STATES = 400
MOST_TAGS = 300
MOST_PRODUCED = 5000
# The parts of a picture: for the state, the left side, their end, and the right side.
PARTS = ("a", "b", "c", "d")
X = ("x",)


class TuringToTags:
    """A translation of a Turing machine with two symbols into a tag system.

    A move takes three passes over the word. In the first one, the side that
    shrinks becomes single symbols, and each step takes two of them: so their
    number is halved, and its remainder tells whether the steps then fall on
    the first or on the second symbol of the pairs that follow.
    """

    def __init__(self, machine):
        if not _is_fitting_machine(machine):
            raise NotFitting("no Turing machine with two symbols and so few states")
        self.source = machine
        self.target = Tags(self._productions())

    def picture(self, configuration):
        """The word with as many pairs for each side as its number tells."""
        state, left, here, right = configuration
        left_number = number_of(left, 2)
        right_number = number_of(right, 2)
        refuse_large(left_number + right_number)
        first = 1 + len(PARTS) * (2 * state + here)
        return ((first, 0) + (first + 1, 0) * left_number
                + (first + 2, 0) + (first + 3, 0) * right_number)

    def read_back(self, configuration):
        """The sides of whose numbers there are so many pairs."""
        first = configuration[0]
        state, here = divmod(first // len(PARTS), 2)
        left = symbols_of(configuration.count(first + 1), 2)
        return state, left, here, symbols_of(configuration.count(first + 3), 2)

    def cost(self, configuration):
        """One pass over the word to stay, three to move."""
        state, left, here, right = configuration
        written, move, _ = self.source.rule(state, here)
        left_number = number_of(left, 2)
        right_number = number_of(right, 2)
        first_pass = left_number + right_number + 2
        if move == 0:
            return first_pass
        if move == 1:
            return first_pass + 2 * _pairs(left_number, written, right_number)
        return first_pass + 2 * _pairs(right_number, written, left_number)

    def last_steps(self, configuration):
        """The first symbol has no production."""
        return 0

    def _productions(self):
        """The productions of all symbols, those for the states of the source first."""
        numbering = Numbering([X])
        for state in range(self.source.states):
            for symbol in (0, 1):
                for part in PARTS:
                    numbering.number(("at", part, state, symbol))
        productions = []
        while len(productions) < len(numbering.names):
            names = self._produced(numbering.names[len(productions)])
            if names is None:
                productions.append(None)
            else:
                productions.append(tuple([numbering.number(name) for name in names]))
        return productions

    def _produced(self, name):
        """The names of the symbols of a production, or None."""
        if name == X:
            return None
        pass_name, part, state, bit = name
        if pass_name == "at":
            return self._first_produced(part, state, bit)
        if pass_name == "right":
            return _either("right last", part, state)
        if pass_name == "left" and bit is None:
            return _either("left last", part, state)
        if pass_name == "left":
            return _after_remainder(("left last", part, state, bit), part == "c")
        return _after_remainder(("at", part, state, bit), pass_name == "right last" and part == "a")

    def _first_produced(self, part, state, symbol):
        """The production for a part of a picture."""
        rule = self.source.rule(state, symbol)
        if rule is None:
            return None
        written, move, following = rule
        if move == 0:
            return [("at", part, following, written), X]
        if move == 1:
            return _to_right(part, written, following)
        return _to_left(part, written, following)


class TagsToTuring:
    """A translation of a tag system into a Turing machine that has the word on its tape."""

    def __init__(self, machine):
        if not _is_fitting_system(machine):
            raise NotFitting("no tag system with so few symbols and so short productions")
        self.source = machine
        self._numbering = Numbering([("first",)])
        rules = numbered_rules(self._numbering, self._deeds_in)
        symbols = max(2, len(machine.productions) + 1)
        self.target = Turing(len(self._numbering.names), symbols, rules)

    def picture(self, configuration):
        """The word on the tape, each symbol greater by 1, with the head on its first one."""
        if not configuration:
            return 0, (), BLANK, ()
        word = tuple([symbol + 1 for symbol in configuration])
        return 0, (), word[0], word[1:]

    def read_back(self, configuration):
        """The word on the tape, or the symbol that was taken off and has no second one."""
        state, _, here, right = configuration
        if state != 0:
            return (self._numbering.names[state][1],)
        if here == BLANK:
            return ()
        return tuple([symbol - 1 for symbol in (here,) + right])

    def cost(self, configuration):
        """The way over the word to its end, and back over it and what was written."""
        return 2 * (len(configuration) + len(self.source.productions[configuration[0]]))

    def last_steps(self, configuration):
        """One step to find that there is no second symbol."""
        if len(configuration) == 1 and self.source.productions[configuration[0]] is not None:
            return 1
        return 0

    def _deeds_in(self, name):
        """What the target does in the state of this name."""
        productions = self.source.productions
        tape_symbols = range(1, len(productions) + 1)
        if name[0] == "first":
            return [(symbol + 1, BLANK, 1, ("second", symbol))
                    for symbol, production in enumerate(productions) if production is not None]
        if name[0] == "second":
            return [(seen, BLANK, 1, ("write", name[1], 0)) for seen in tape_symbols]
        if name[0] == "back":
            return [(seen, seen, -1, name) for seen in tape_symbols] + [(BLANK, BLANK, 1, ("first",))]
        _, symbol, written = name
        if written == len(productions[symbol]):
            deeds = [(BLANK, BLANK, -1, ("back",))]
        else:
            deeds = [(BLANK, productions[symbol][written] + 1, 1, ("write", symbol, written + 1))]
        if written == 0:
            # The rest of the word stands before the place to write at.
            deeds.extend([(seen, seen, 1, name) for seen in tape_symbols])
        return deeds


def _is_fitting_machine(machine):
    return isinstance(machine, Turing) and machine.symbols == 2 and machine.states <= MOST_STATES


def _is_fitting_system(machine):
    if not isinstance(machine, Tags) or len(machine.productions) > MOST_TAGS:
        return False
    produced = [len(production) for production in machine.productions if production is not None]
    return sum(produced) <= MOST_PRODUCED


def _pairs(grown, written, shrunk):
    """The pairs in the word of the second and third pass of a move."""
    return 2 * grown + written + shrunk // 2 + 2


def _to_right(part, written, following):
    """The first pass of a move to the right: doubles the left side, and writes."""
    double = [("right", "b", following, None), X]
    if part == "a":
        return [("right", "a", following, None), X] + double * written
    if part == "b":
        return double * 2
    return [("right", part, following, None)]


def _to_left(part, written, following):
    """The first pass of a move to the left: doubles the right side, and writes.

    The singles of the left side come first, so the pairs behind them already
    tell the remainder of the left number.
    """
    double = _either("left", "d", following)
    if part == "c":
        return _either("left", "c", following) + double * written
    if part == "d":
        return double * 2
    return [("left", part, following, None)]


def _either(pass_name, part, state):
    """A pair of which one is seen: the first one if the remainder is 1, otherwise the second one."""
    return [(pass_name, part, state, 1), (pass_name, part, state, 0)]


def _after_remainder(name, is_first):
    """A pair for what was seen of a pair.

    The steps fall on the second symbols of pairs if the remainder is 0. The
    first pair that is made then has one more symbol before it, so that they
    fall on first symbols again.
    """
    if is_first and name[3] == 0:
        return [X, name, X]
    return [name, X]
