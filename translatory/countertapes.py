"""Register programs with two registers as Turing machines."""

from translatory.errors import NotFitting
from translatory.limits import refuse_large
from translatory.numbering import Numbering, numbered_rules
from translatory.registers import Registers
from translatory.turing import BLANK, Turing

MOST_INSTRUCTIONS = 3000
MARK = 1
MIDDLE = 2


class CountersToTuring:
    """A translation of two registers into marks on both sides of a middle."""

    def __init__(self, machine):
        if not _is_fitting(machine):
            raise NotFitting("no register program with two registers and so few instructions")
        self.source = machine
        numbering = Numbering([("at", place) for place in range(len(machine.instructions))])
        rules = numbered_rules(numbering, self._deeds_in)
        self.target = Turing(len(numbering.names), 3, rules)

    def picture(self, configuration):
        """The head on the middle, with as many marks on its sides as the registers tell."""
        place, values = configuration
        refuse_large(sum(values))
        return place, (MARK,) * values[0], MIDDLE, (MARK,) * values[1]

    def read_back(self, configuration):
        """The numbers of marks on both sides."""
        place, left, _, right = configuration
        return place, (len(left), len(right))

    def cost(self, configuration):
        """The way to the end of the marks and back, or a look at the cell beside the middle."""
        place, values = configuration
        instruction = self.source.instructions[place]
        marks = values[instruction[1]]
        if instruction[0] == "dec" and marks == 0:
            return 2
        return 2 * marks + 3

    def last_steps(self, configuration):
        """There is no rule for the place of an "end"."""
        return 0

    def _deeds_in(self, name):
        """What the target does in the state of this name."""
        if name[0] == "at":
            return _first_deeds(self.source.instructions[name[1]])
        if name[0] == "test":
            _, way, following, other = name
            return [(BLANK, BLANK, -way, ("at", other)),
                    (MARK, MARK, way, ("far", way, following))]
        _, way, following = name
        home = ("home", way, following)
        if name[0] == "take":
            return [(MARK, BLANK, -way, home)]
        if name[0] == "home":
            return [(MARK, MARK, -way, home), (MIDDLE, MIDDLE, 0, ("at", following))]
        if name[0] == "add":
            return [(MARK, MARK, way, name), (BLANK, MARK, -way, home)]
        return [(MARK, MARK, way, name), (BLANK, BLANK, -way, ("take", way, following))]


def _is_fitting(machine):
    return (isinstance(machine, Registers) and machine.count == 2
            and len(machine.instructions) <= MOST_INSTRUCTIONS)


def _first_deeds(instruction):
    """What is done on the middle: the head leaves it to the side of the register."""
    if instruction[0] == "end":
        return []
    way = -1 if instruction[1] == 0 else 1
    if instruction[0] == "inc":
        return [(MIDDLE, MIDDLE, way, ("add", way, instruction[2]))]
    return [(MIDDLE, MIDDLE, way, ("test", way, instruction[2], instruction[3]))]
