"""Tag systems."""

from translatory.errors import InvalidMachine

MOST_PRODUCTIONS = 20000


class Tags:
    """A tag system; its configurations are tuples of symbols."""

    def __init__(self, productions):
        symbols = len(productions)
        if symbols > MOST_PRODUCTIONS:
            raise InvalidMachine("there are too many productions")
        for production in productions:
            if production is not None and not _is_word(production, symbols):
                raise InvalidMachine("a production has a symbol that there is not")
        self.productions = tuple(productions)

    def __eq__(self, other):
        return isinstance(other, Tags) and self.productions == other.productions

    def step(self, configuration):
        """The next word, or None if the run ends."""
        if len(configuration) < 2:
            return None
        production = self.productions[configuration[0]]
        if production is None:
            return None
        return configuration[2:] + production


def _is_word(production, symbols):
    return all([0 <= symbol < symbols for symbol in production])
