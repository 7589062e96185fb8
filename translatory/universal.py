"""One Turing machine that runs every Turing machine with two symbols and at most 40 states.

The code of a machine stands in the tape of the source, directly to the left
of the cell under the head. From the right to the left it has a cell for the
present state, and then two cells for each state and symbol: one for what is
written and how the head moves, or that there is no rule, and one for the next
state. For each step of the source the universal machine

- finds the pair of cells for the present state and the symbol, by counting,
- marks the deed there, and carries the next state to the cell of the present one,
- comes back to the mark, takes it away, and writes what the deed says,
- carries the whole code over one cell of the tape, if the head moves.
"""

from translatory.errors import NotFitting
from translatory.numbering import Numbering, numbered_rules
from translatory.turing import BLANK, Turing, without_end_blanks

MOST_STATES = 40
TAPE = (0, 1)
NO_RULE = 2
# The deeds, in the order of what is written and then of the move, and the marked ones.
FIRST_DEED = 3
FIRST_MARKED = 9
FIRST_STATE = 15
SYMBOLS = 55
READ = ("read",)
BACK = ("back",)


def universal():
    """The universal machine."""
    numbering = Numbering([READ])
    rules = numbered_rules(numbering, _deeds_in)
    return Turing(len(numbering.names), SYMBOLS, rules)


class ToUniversal:
    """A translation of a Turing machine into the universal machine."""

    def __init__(self, machine):
        if not _is_fitting(machine):
            raise NotFitting("no Turing machine with two symbols and so few states")
        self.source = machine
        self.target = universal()
        self._code = _code(machine)

    def picture(self, configuration):
        """The tape with the code to the left of the head."""
        state, left, here, right = configuration
        return 0, (FIRST_STATE + state,) + self._code + left, here, right

    def read_back(self, configuration):
        """What stands on both sides of the code, wherever the head is."""
        _, left, here, right = configuration
        cells = left[::-1] + (here,) + right + (BLANK,)
        first = 0
        while cells[first] in TAPE:
            first += 1
        head = first + len(self._code) + 1
        state = cells[head - 1] - FIRST_STATE
        return (state, without_end_blanks(cells[:first][::-1]), cells[head],
                without_end_blanks(cells[head + 1:]))

    def cost(self, configuration):
        """The ways to the deed and back, and for a move the way over the whole code."""
        state, _, here, _ = configuration
        _, move, _ = self.source.rule(state, here)
        number = _pair_number(state, here)
        if move == 0:
            return 8 * number + 11
        if move == 1:
            return 4 * number + 2 * len(self._code) + 11
        return 8 * number + 2 * len(self._code) + 14

    def last_steps(self, configuration):
        """The way to the cell that tells that there is no rule."""
        state, _, here, _ = configuration
        return 2 * _pair_number(state, here) + 2


def _is_fitting(machine):
    return isinstance(machine, Turing) and machine.symbols == 2 and machine.states <= MOST_STATES


def _pair_number(state, symbol):
    """How many pairs of cells stand between the pair for these and the right end of the code."""
    return 2 * state + symbol


def _code(machine):
    """The cells for all states and symbols, the nearest one to the head first."""
    cells = []
    for state in range(machine.states):
        for symbol in TAPE:
            rule = machine.rule(state, symbol)
            if rule is None:
                cells.extend([NO_RULE, FIRST_STATE])
            else:
                written, move, following = rule
                cells.extend([FIRST_DEED + 3 * written + move + 1, FIRST_STATE + following])
    return tuple(cells)


def _deeds_in(name):
    """What the universal machine does in the state of this name."""
    word = name[0]
    if word == "read":
        return [(symbol, symbol, -1, ("seen", symbol)) for symbol in TAPE]
    if word == "seen":
        return [(FIRST_STATE + state, FIRST_STATE + state, -1, ("find", _pair_number(state, name[1])))
                for state in range(MOST_STATES)]
    if word == "find":
        return _finding_deeds(name)
    if word == "chosen":
        return [(symbol, symbol, 1, ("bring", symbol)) for symbol in _state_symbols()]
    if word == "bring":
        deeds = _passing(name, 1, list(range(NO_RULE, SYMBOLS)))
        return deeds + [(symbol, symbol, -1, ("put", name[1])) for symbol in TAPE]
    if word == "put":
        return [(symbol, name[1], -1, BACK) for symbol in _state_symbols()]
    if word == "back":
        return _passing(name, -1, _code_symbols()) + _unmarking_deeds()
    if word in ("stay", "turn", "home", "fill"):
        return _writing_deeds(name)
    return _shifting_deeds(name)


def _finding_deeds(name):
    """Counts pairs on the way to the left, and marks the deed of the last one."""
    _, number = name
    deeds = _passing(name, -1, _state_symbols())
    for symbol in range(NO_RULE, FIRST_MARKED):
        if number > 0:
            deeds.append((symbol, symbol, -1, ("find", number - 1)))
        elif symbol != NO_RULE:
            deeds.append((symbol, symbol + FIRST_MARKED - FIRST_DEED, -1, ("chosen",)))
    return deeds


def _unmarking_deeds():
    """Takes the mark away, and goes to do what the deed says."""
    deeds = []
    for written in TAPE:
        for move, way, word in ((-1, 1, "turn"), (0, 1, "stay"), (1, -1, "home")):
            deed = 3 * written + move + 1
            deeds.append((FIRST_MARKED + deed, FIRST_DEED + deed, way, (word, written)))
    return deeds


def _writing_deeds(name):
    """Goes to the end of the code, to write the symbol in the name there.

    For a move to the right the symbol comes to the left of the code.
    """
    word, written = name
    if word == "home":
        return _passing(name, -1, _code_symbols()) + [(symbol, symbol, 1, ("push", written)) for symbol in TAPE]
    deeds = _passing(name, 1, _code_symbols())
    if word == "turn":
        return deeds + [(symbol, written, -1, ("pull",)) for symbol in TAPE]
    return deeds + [(symbol, written, 0, READ) for symbol in TAPE]


def _shifting_deeds(name):
    """Writes each cell of the code one cell further to the right or to the left.

    The first cell to the right is taken by a symbol of the tape. On the way to
    the left the symbol of the cell that the code comes over is brought back.
    """
    word = name[0]
    if word == "push":
        return [(symbol, name[1], 1, ("right", symbol)) for symbol in _code_symbols()]
    if word == "pull":
        return [(symbol, BLANK, -1, ("left", symbol)) for symbol in _state_symbols()]
    way = 1 if word == "right" else -1
    deeds = [(symbol, name[1], way, (word, symbol)) for symbol in _code_symbols()]
    if word == "right":
        return deeds + [(symbol, name[1], 1, READ) for symbol in TAPE]
    return deeds + [(symbol, name[1], 1, ("fill", symbol)) for symbol in TAPE]


def _passing(name, way, symbols):
    """Goes on over these symbols."""
    return [(symbol, symbol, way, name) for symbol in symbols]


def _state_symbols():
    """The symbols for the states of the source."""
    return list(range(FIRST_STATE, SYMBOLS))


def _code_symbols():
    """The symbols of a code without a mark."""
    return list(range(NO_RULE, FIRST_MARKED)) + _state_symbols()
