"""Register programs that are written piece by piece."""


class Listing:
    """The instructions of a register program that is being written.

    Its first places are kept from the beginning, for those at which pictures
    stand. Each has the instruction "end" until another one is set there.
    """

    def __init__(self, kept):
        self.instructions = [("end",)] * kept

    def set_at(self, place, instruction):
        """Sets the instruction at a place that is there."""
        self.instructions[place] = instruction

    def place(self, instruction):
        """Writes an instruction at a new place; returns the place."""
        self.instructions.append(instruction)
        return len(self.instructions) - 1

    def incs(self, which, times, following):
        """Instructions that add 1 so many times; returns the place at which they begin."""
        for _ in range(times):
            following = self.place(("inc", which, following))
        return following

    def pour_at(self, head, giver, taker, times, following):
        """A loop at `head`: empties a register and adds `times` its value to another one."""
        self.set_at(head, ("dec", giver, self.incs(taker, times, head), following))

    def pour(self, giver, taker, times, following):
        """A loop as that of `pour_at` at a new place; returns the place."""
        head = self.place(("end",))
        self.pour_at(head, giver, taker, times, following)
        return head

    def divide_at(self, head, giver, taker, exits):
        """A loop at `head`: empties a register and adds its quotient to another one.

        It divides by the number of the exits, and goes on at the exit that
        has the remainder as its index.
        """
        following = self.place(("inc", taker, head))
        for remainder in range(len(exits) - 1, 0, -1):
            following = self.place(("dec", giver, following, exits[remainder]))
        self.set_at(head, ("dec", giver, following, exits[0]))
