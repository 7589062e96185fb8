"""Numbers for states and symbols that are known by names."""


class Numbering:
    """Gives each name a number, in the order in which the names come up."""

    def __init__(self, names):
        self.names = []
        self._numbers = {}
        for name in names:
            self.number(name)

    def number(self, name):
        """The number of a name, a new one for a new name."""
        number = self._numbers.setdefault(name, len(self.names))
        if number == len(self.names):
            self.names.append(name)
        return number


def numbered_rules(numbering, deeds_in):
    """The rules of a Turing machine whose states have names.

    `deeds_in` tells for a name a list of tuples `(symbol, written, move, name)`.
    It is asked for each name that there is, and for those that it tells.
    """
    rules = []
    state = 0
    while state < len(numbering.names):
        deeds = deeds_in(numbering.names[state])
        for symbol, written, move, name in deeds:
            rules.append((state, symbol, written, move, numbering.number(name)))
        state += 1
    return rules
