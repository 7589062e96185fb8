"""String systems."""

from translatory.errors import InvalidMachine

MOST_RULES = 100000


class Strings:
    """A string system; its configurations are tuples of symbols."""

    def __init__(self, rules):
        if len(rules) > MOST_RULES:
            raise InvalidMachine("there are too many rules")
        for left, right in rules:
            if not left or min(left + right) < 0:
                raise InvalidMachine("a rule is not as it should be")
        self.rules = tuple(rules)
        self._left_sides = LeftSides(self.rules)

    def __eq__(self, other):
        return isinstance(other, Strings) and self.rules == other.rules

    def step(self, configuration):
        """The word after the first rule that fits, at its leftmost place, or None."""
        best = len(self.rules)
        place = 0
        for start in range(len(configuration)):
            number = self._left_sides.least_rule(configuration, start, best)
            if number < best:
                best = number
                place = start
        if best == len(self.rules):
            return None
        left, right = self.rules[best]
        return configuration[:place] + right + configuration[place + len(left):]


class LeftSides:
    """The left sides of rules as a tree, merged where they begin alike.

    So a step need not try each of many rules at each place of the word.
    """

    def __init__(self, rules):
        self._next_nodes = {}
        self._ends = {}
        # The rules come in ascending order, so the one that makes a node is
        # the least one that leads through it.
        self._makers = [0]
        for number, (left, _) in enumerate(rules):
            node = 0
            for symbol in left:
                node = self._next_nodes.setdefault((node, symbol), len(self._makers))
                if node == len(self._makers):
                    self._makers.append(number)
            self._ends.setdefault(node, number)

    def least_rule(self, word, start, best):
        """The least rule below `best` whose left side stands at `start`, or `best`."""
        node = 0
        for at in range(start, len(word)):
            node = self._next_nodes.get((node, word[at]))
            if node is None or self._makers[node] >= best:
                break
            best = min(best, self._ends.get(node, best))
        return best
