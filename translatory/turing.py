"""Turing machines, and the numbers of tuples of symbols."""

from translatory.errors import InvalidMachine

MOST_STATES = 20000
MOST_SYMBOLS = 400
BLANK = 0


class Turing:
    """A Turing machine; its configurations are tuples `(state, left, here, right)`."""

    def __init__(self, states, symbols, rules):
        if not 1 <= states <= MOST_STATES:
            raise InvalidMachine("the number of states is out of its range")
        if not 2 <= symbols <= MOST_SYMBOLS:
            raise InvalidMachine("the number of symbols is out of its range")
        if not _are_rules(rules, states, symbols):
            raise InvalidMachine("a rule is not as it should be")
        self.states = states
        self.symbols = symbols
        self.rules = tuple(sorted(rules))
        self._rules_at = {(rule[0], rule[1]): rule for rule in self.rules}
        if len(self._rules_at) < len(self.rules):
            raise InvalidMachine("two rules are for the same state and symbol")

    def __eq__(self, other):
        return (isinstance(other, Turing) and self.states == other.states
                and self.symbols == other.symbols and self.rules == other.rules)

    def step(self, configuration):
        """The next configuration, or None if there is no rule."""
        # Most of a long run is spent here, so no other function is called.
        state, left, here, right = configuration
        rule = self._rules_at.get((state, here))
        if rule is None:
            return None
        _, _, written, move, following = rule
        if move == 0:
            return following, left, written, right
        if move == 1:
            if left or written != BLANK:
                left = (written,) + left
            if right:
                return following, left, right[0], right[1:]
            return following, left, BLANK, right
        if right or written != BLANK:
            right = (written,) + right
        if left:
            return following, left[1:], left[0], right
        return following, left, BLANK, right

    def rule(self, state, symbol):
        """The tuple `(written, move, next)` for a state and a symbol, or None."""
        rule = self._rules_at.get((state, symbol))
        if rule is None:
            return None
        return rule[2:]

    def is_configuration(self, configuration):
        """True if state and symbols are there and no side ends with a blank."""
        state, left, here, right = configuration
        return (0 <= state < self.states and 0 <= here < self.symbols
                and self._is_side(left) and self._is_side(right))

    def _is_side(self, side):
        if side and side[-1] == BLANK:
            return False
        return all([0 <= symbol < self.symbols for symbol in side])


def start(word):
    """The configuration in the state 0 with the head on the first symbol of the word."""
    symbols = without_end_blanks(word)
    if not symbols:
        return 0, (), BLANK, ()
    return 0, (), symbols[0], symbols[1:]


def content(configuration):
    """The symbols from the first to the last one that is not blank, from the left."""
    _, left, here, right = configuration
    from_right = without_end_blanks(left[::-1] + (here,) + right)[::-1]
    return without_end_blanks(from_right)[::-1]


def number_of(symbols, base):
    """The number of a tuple of symbols, of which the first one counts least."""
    number = 0
    for symbol in reversed(symbols):
        number = number * base + symbol
    return number


def symbols_of(number, base):
    """The tuple without blanks at its end that has this number."""
    symbols = []
    while number > 0:
        number, symbol = divmod(number, base)
        symbols.append(symbol)
    return tuple(symbols)


def _are_rules(rules, states, symbols):
    """True if a machine of so many states and symbols may have each of the rules."""
    if not all([len(rule) == 5 for rule in rules]):
        return False
    for state, symbol, written, move, following in rules:
        if not (0 <= state < states and 0 <= following < states
                and 0 <= symbol < symbols and 0 <= written < symbols and -1 <= move <= 1):
            return False
    return True


def without_end_blanks(symbols):
    """The tuple without the blanks at its end."""
    end = len(symbols)
    while end > 0 and symbols[end - 1] == BLANK:
        end -= 1
    return symbols[:end]
