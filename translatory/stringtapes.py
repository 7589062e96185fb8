"""Turing machines as string systems: the tape as a word between two borders."""

from translatory.errors import NotFitting
from translatory.strings import Strings
from translatory.turing import BLANK, Turing, without_end_blanks

MOST_STATES = 200
MOST_SYMBOLS = 20


class TuringToStrings:
    """A translation into a string system.

    The symbols of the source stand for themselves; behind them come the
    symbols for the states and for the left and the right border.
    """

    def __init__(self, machine):
        if not _is_fitting(machine):
            raise NotFitting("no Turing machine with so few states and symbols")
        self.source = machine
        self._left_border = machine.symbols + machine.states
        self._right_border = self._left_border + 1
        rules = []
        for rule in machine.rules:
            rules.extend(self._string_rules(rule))
        self.target = Strings(rules)

    def picture(self, configuration):
        """The tape from border to border, with the state before the symbol under the head."""
        state, left, here, right = configuration
        return ((self._left_border,) + left[::-1] + (self.source.symbols + state, here)
                + right + (self._right_border,))

    def read_back(self, configuration):
        """What stands on both sides of the state, without blanks at the borders."""
        at = 0
        while not self._is_state(configuration[at]):
            at += 1
        left = without_end_blanks(configuration[1:at][::-1])
        right = without_end_blanks(configuration[at + 2:-1])
        return configuration[at] - self.source.symbols, left, configuration[at + 1], right

    def cost(self, configuration):
        """Each rule of the source is done by one rule of the target."""
        return 1

    def last_steps(self, configuration):
        """No left side has the state and the symbol."""
        return 0

    def _is_state(self, symbol):
        return self.source.symbols <= symbol < self._left_border

    def _string_rules(self, rule):
        """The rules for one rule of the source."""
        state, symbol, written, move, following = rule
        here = (self.source.symbols + state, symbol)
        now = self.source.symbols + following
        if move == 0:
            return [(here, (now, written))]
        if move == 1:
            border = self._right_border
            # At the border comes a new blank, so this rule goes before the other one.
            return [(here + (border,), (written, now, BLANK, border)), (here, (written, now))]
        border = self._left_border
        inner = [((near,) + here, (now, near, written)) for near in range(self.source.symbols)]
        return inner + [((border,) + here, (border, now, BLANK, written))]


def _is_fitting(machine):
    return (isinstance(machine, Turing) and machine.states <= MOST_STATES
            and machine.symbols <= MOST_SYMBOLS)
