"""Programs with registers."""

from translatory.errors import InvalidMachine

MOST_REGISTERS = 2000
MOST_INSTRUCTIONS = 100000


class Registers:
    """A register program; its configurations are tuples `(place, values)`."""

    def __init__(self, count, instructions):
        if not 1 <= count <= MOST_REGISTERS:
            raise InvalidMachine("the number of registers is out of its range")
        places = len(instructions)
        if not 1 <= places <= MOST_INSTRUCTIONS:
            raise InvalidMachine("the number of instructions is out of its range")
        for instruction in instructions:
            if not _names_what_is_there(instruction, count, places):
                raise InvalidMachine("an instruction names what is not there")
        self.count = count
        self.instructions = tuple(instructions)

    def __eq__(self, other):
        return (isinstance(other, Registers) and self.count == other.count
                and self.instructions == other.instructions)

    def step(self, configuration):
        """The next configuration, or None at an "end"."""
        place, values = configuration
        instruction = self.instructions[place]
        if instruction[0] == "end":
            return None
        if instruction[0] == "inc":
            _, which, following = instruction
            return following, _changed(values, which, 1)
        _, which, following, other = instruction
        if values[which] == 0:
            return other, values
        return following, _changed(values, which, -1)

    def is_configuration(self, configuration):
        """True if the place and the registers are there and no value is negative."""
        place, values = configuration
        return (0 <= place < len(self.instructions) and len(values) == self.count
                and min(values) >= 0)


def adding():
    """The program that adds register 1 to register 0."""
    return Registers(2, [("dec", 1, 1, 2), ("inc", 0, 0), ("end",)])


def _names_what_is_there(instruction, count, places):
    """True if the instruction names only some of `count` registers and of `places` places."""
    if instruction[0] == "end":
        return True
    _, which, *targets = instruction
    return 0 <= which < count and all([0 <= place < places for place in targets])


def _changed(values, which, change):
    """The values with `change` added to one of them."""
    return values[:which] + (values[which] + change,) + values[which + 1:]
