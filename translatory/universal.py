"""One Turing machine that runs every Turing machine with two symbols and at most 40 states.

The code of a machine stands in the tape of the source, directly to the left
of the cell under the head. From the right to the left it has two cells for the
present state, and then a pair of cells for each state and symbol. A state is
8 times a high part, below 5, and a low part. The first cell of a pair tells the
move and the high part of the next state, or that there is no rule; the second
one tells what is written, and the low part.

All cells of the code have the same symbols, as few as so short a code allows:
so there are few rules, and the machine is soon made. For each step of the
source it

- takes the present state, which leaves gaps, and finds the pair by counting cells,
- marks the second cell of the pair, and carries the next state to the gaps,
- comes back to the mark, takes it away, and writes what the pair says,
- carries the whole code over one cell of the tape, if the head moves.
"""

from translatory.errors import NotFitting
from translatory.turing import BLANK, Turing, without_end_blanks

MOST_STATES = 40
# The number of cells that are passed on the way to the last pair of the largest code.
MOST_PASSED = 158
HIGH_PARTS = 5
LOW_PARTS = 8

# The symbols: those of the tape, of the code, and of marked cells, and the gap.
TAPE = (0, 1)
CODE = (2, 3, 4, 5, 6, 7, 8, 9, 10, 11, 12, 13, 14, 15, 16, 17)
FIRST = 2
NO_RULE = 17
FIRST_MARKED = 18
GAP = 34
SYMBOLS = 35

# The states, each of which stands for as many as there are numbers to be added to it.
READ = 0
SEEN = 1
HALF_KNOWN = 3
FIND = 13
CHOSEN = 172
BRING = 177
PUT = 217
BACK = 222
DEED = 223
STAY = 225
TURN = 227
HOME = 229
PULL = 231
PUSH = 232
FILL = 234
LEFT = 236
RIGHT = 252
STATES = 268


def universal():
    """The universal machine."""
    return Turing(STATES, SYMBOLS, _reading() + _finding() + _bringing() + _writing() + _shifting())


class ToUniversal:
    """A translation of a Turing machine into the universal machine."""

    def __init__(self, machine):
        if not _is_fitting(machine):
            raise NotFitting("no Turing machine with two symbols and so few states")
        self.source = machine
        self.target = universal()
        self._code = _code(machine)

    def picture(self, configuration):
        """The tape with the code to the left of the head."""
        state, left, here, right = configuration
        high, low = divmod(state, LOW_PARTS)
        return READ, (FIRST + high, FIRST + low) + self._code + left, here, right

    def read_back(self, configuration):
        """What stands on both sides of the code, wherever the head is."""
        place, left, here, right = configuration
        cells = left[::-1] + (here,) + right + (BLANK,)
        first = 0
        while cells[first] in TAPE:
            first += 1
        head = first + len(self._code) + 2
        if place == READ:
            state = LOW_PARTS * (cells[head - 1] - FIRST) + cells[head - 2] - FIRST
        else:
            # The present state was taken. The head is on the first cell of a pair for it.
            state = (head - 3 - len(left)) // 4
        return (state, without_end_blanks(cells[:first][::-1]), cells[head],
                without_end_blanks(cells[head + 1:]))

    def cost(self, configuration):
        """The ways to the pair and back, twice, and for a move the way over the whole code."""
        state, _, here, _ = configuration
        _, move, _ = self.source.rule(state, here)
        passed = _passed_cells(state, here)
        if move == 0:
            return 4 * passed + 15
        if move == 1:
            return 2 * passed + 2 * len(self._code) + 15
        return 4 * passed + 2 * len(self._code) + 20

    def last_steps(self, configuration):
        """The way to the cell that tells that there is no rule."""
        state, _, here, _ = configuration
        return _passed_cells(state, here) + 3


def _is_fitting(machine):
    return isinstance(machine, Turing) and machine.symbols == 2 and machine.states <= MOST_STATES


def _passed_cells(state, symbol):
    """How many cells of other pairs stand before the pair for these."""
    return 2 * (2 * state + symbol)


def _code(machine):
    """The pairs of cells for all states and symbols, the nearest one to the head first."""
    cells = []
    for state in range(machine.states):
        for symbol in TAPE:
            rule = machine.rule(state, symbol)
            if rule is None:
                cells.extend([NO_RULE, FIRST])
            else:
                written, move, following = rule
                high, low = divmod(following, LOW_PARTS)
                cells.extend([_first_cell(move, high), FIRST + _second_number(written, low)])
    return tuple(cells)


def _first_cell(move, high):
    """The symbol for a move and a high part."""
    return FIRST + 3 * high + move + 1


def _second_number(written, low):
    """The number, from 0 to 15, of the symbol for what is written and a low part."""
    return LOW_PARTS * written + low


def _reading():
    """Takes the symbol under the head and the present state."""
    rules = []
    for symbol in TAPE:
        rules.append((READ, symbol, symbol, -1, SEEN + symbol))
        for high in range(HIGH_PARTS):
            half = HALF_KNOWN + HIGH_PARTS * symbol + high
            rules.append((SEEN + symbol, FIRST + high, GAP, -1, half))
            for low in range(LOW_PARTS):
                passed = _passed_cells(LOW_PARTS * high + low, symbol)
                rules.append((half, FIRST + low, GAP, -1, FIND + passed))
    return rules


def _finding():
    """Counts cells on the way to the left, and marks the second cell of the pair behind them."""
    rules = []
    for count in range(1, MOST_PASSED + 1):
        rules.extend([(FIND + count, symbol, symbol, -1, FIND + count - 1) for symbol in CODE])
    for high in range(HIGH_PARTS):
        for move in (-1, 0, 1):
            symbol = _first_cell(move, high)
            rules.append((FIND, symbol, symbol, -1, CHOSEN + high))
        for written in TAPE:
            for low in range(LOW_PARTS):
                cell = _second_number(written, low)
                rules.append((CHOSEN + high, FIRST + cell, FIRST_MARKED + cell, 1, BRING + LOW_PARTS * high + low))
    return rules


def _bringing():
    """Carries the next state to the gaps, comes back to the mark, and takes it away."""
    rules = _passing(BACK, -1)
    for high in range(HIGH_PARTS):
        rules.append((PUT + high, GAP, FIRST + high, -1, BACK))
        for low in range(LOW_PARTS):
            bring = BRING + LOW_PARTS * high + low
            rules.extend(_passing(bring, 1))
            rules.append((bring, GAP, FIRST + low, 1, PUT + high))
    for written in TAPE:
        for low in range(LOW_PARTS):
            cell = _second_number(written, low)
            rules.append((BACK, FIRST_MARKED + cell, FIRST + cell, 1, DEED + written))
    return rules


def _writing():
    """Goes to the end of the code, to write there what the pair says.

    For a move to the right it is written to the left of the code.
    """
    rules = []
    for written in TAPE:
        for high in range(HIGH_PARTS):
            for move, way, word in ((-1, 1, TURN), (0, 1, STAY), (1, -1, HOME)):
                symbol = _first_cell(move, high)
                rules.append((DEED + written, symbol, symbol, way, word + written))
        for word, way in ((STAY, 1), (TURN, 1), (HOME, -1)):
            rules.extend(_passing(word + written, way))
        for seen in TAPE:
            rules.append((STAY + written, seen, written, 0, READ))
            rules.append((TURN + written, seen, written, -1, PULL))
            rules.append((HOME + written, seen, seen, 1, PUSH + written))
    return rules


def _shifting():
    """Writes each cell of the code one cell further to the left or to the right.

    The first cell to the right is taken by a symbol of the tape. On the way to
    the left the symbol of the cell that the code comes over is brought back.
    """
    rules = [(PULL, symbol, BLANK, -1, LEFT + symbol - FIRST) for symbol in CODE]
    for carried in CODE:
        left = LEFT + carried - FIRST
        right = RIGHT + carried - FIRST
        rules.extend([(left, symbol, carried, -1, LEFT + symbol - FIRST) for symbol in CODE])
        rules.extend([(right, symbol, carried, 1, RIGHT + symbol - FIRST) for symbol in CODE])
        for seen in TAPE:
            rules.append((left, seen, carried, 1, FILL + seen))
            rules.append((right, seen, carried, 1, READ))
    for symbol in TAPE:
        rules.extend(_passing(FILL + symbol, 1))
        rules.append((FILL + symbol, BLANK, symbol, 0, READ))
        rules.extend([(PUSH + symbol, cell, symbol, 1, RIGHT + cell - FIRST) for cell in CODE])
    return rules


def _passing(state, way):
    """Goes on over the cells of the code."""
    return [(state, symbol, symbol, way, state) for symbol in CODE]
