"""Turing machines with two symbols: each cell as a block of binary digits."""

from translatory.errors import NotFitting
from translatory.numbering import Numbering, numbered_rules
from translatory.turing import BLANK, Turing, number_of, without_end_blanks

MOST_STATES = 60
MOST_SYMBOLS = 20


class TuringToBinary:
    """A translation into a Turing machine with two symbols.

    Digits that were read, or are still to be written, are kept in a state as
    one number: that of the digits behind a 1, which tells their number, too.
    """

    def __init__(self, machine):
        if not _is_fitting(machine):
            raise NotFitting("no Turing machine with so few states and symbols")
        self.source = machine
        self._width = _width(machine.symbols)
        self._numbering = Numbering([("read", state, 1) for state in range(machine.states)])
        rules = numbered_rules(self._numbering, self._deeds_in)
        self.target = Turing(len(self._numbering.names), 2, rules)

    def picture(self, configuration):
        """The digits of all cells, with the head on the first one of its block."""
        state, left, here, right = configuration
        to_left = []
        for symbol in left:
            to_left.extend(self._digits(symbol))
        to_right = []
        for symbol in (here,) + right:
            to_right.extend(self._digits(symbol)[::-1])
        return (state, without_end_blanks(tuple(to_left)), to_right[0],
                without_end_blanks(tuple(to_right[1:])))

    def read_back(self, configuration):
        """The symbols of the blocks; the head may have read a part of its block."""
        state, left, here, right = configuration
        _, source_state, known = self._numbering.names[state]
        passed = known.bit_length() - 1
        passed_digits = (left + (BLANK,) * passed)[:passed]
        blocks = self._blocks(passed_digits[::-1] + (here,) + right)
        symbols = [number_of(block[::-1], 2) for block in blocks]
        left_symbols = [number_of(block, 2) for block in self._blocks(left[passed:])]
        return source_state, tuple(left_symbols), symbols[0], tuple(symbols[1:])

    def cost(self, configuration):
        """The digits but the last one are read, all are written, and a move goes on to a block."""
        state, _, here, _ = configuration
        _, move, _ = self.source.rule(state, here)
        if move == 0:
            return 2 * self._width - 1
        return 3 * self._width - 2

    def last_steps(self, configuration):
        """The end is found at the last digit of the block."""
        return self._width - 1

    def _digits(self, symbol):
        """The list of the digits of a symbol, the one that counts least first."""
        return [symbol >> bit & 1 for bit in range(self._width)]

    def _blocks(self, digits):
        """The digits in blocks, with blanks at the end of the last one."""
        width = self._width
        filled = digits + (BLANK,) * (-len(digits) % width)
        return [filled[start:start + width] for start in range(0, len(filled), width)]

    def _deeds_in(self, name):
        """What the target does in the state of this name."""
        if name[0] == "read":
            return self._reading_deeds(name[1], name[2])
        if name[0] == "write":
            _, code, move, following = name
            return [(bit, *self._writing(code, move, following)) for bit in (0, 1)]
        _, count, move, following = name
        return [(bit, bit, move, self._going(count - 1, move, following)) for bit in (0, 1)]

    def _reading_deeds(self, state, known):
        """Reads one more digit, or, at the last one, begins to do what the rule says."""
        deeds = []
        for bit in (0, 1):
            code = 2 * known + bit
            missing = self._width + 1 - code.bit_length()
            least_symbol = (code << missing) - (1 << self._width)
            if least_symbol >= self.source.symbols:
                continue
            if missing > 0:
                deeds.append((bit, bit, 1, ("read", state, code)))
                continue
            rule = self.source.rule(state, least_symbol)
            if rule is not None:
                written, move, following = rule
                deeds.append((bit, *self._writing(written + (1 << self._width), move, following)))
        return deeds

    def _writing(self, code, move, following):
        """What is written, the move, and the name of the state behind it."""
        if code >> 1 > 1:
            return code & 1, -1, ("write", code >> 1, move, following)
        return code & 1, move, self._going(self._width - 1, move, following)

    def _going(self, count, move, following):
        """The name of the state in which `count` moves to the next block are still to be made."""
        if move == 0 or count == 0:
            return "read", following, 1
        return "go", count, move, following


def _is_fitting(machine):
    return (isinstance(machine, Turing) and machine.states <= MOST_STATES
            and machine.symbols <= MOST_SYMBOLS)


def _width(symbols):
    """How many binary digits each of so many symbols has."""
    return (symbols - 1).bit_length()
