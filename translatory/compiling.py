"""Recursive functions as programs with registers."""

from translatory.listings import Listing
from translatory.recursive import arity, refuse_arguments, refuse_thing
from translatory.registers import Registers

ANSWER = 0


class Compiled:
    """A register program that finds the values of a function."""

    def __init__(self, function):
        refuse_thing(function)
        self._function = function
        inputs = list(range(1, arity(function) + 1))
        spare = len(inputs) + 1
        writer = Writer(spare)
        end = writer.listing.place(("end",))
        first = writer.code(function, inputs, ANSWER, spare + 1, end)
        # The spare register is empty, so this only goes on.
        writer.listing.set_at(0, ("dec", spare, first, first))
        self.machine = Registers(writer.count, writer.listing.instructions)

    def begin(self, arguments):
        """The configuration with the arguments."""
        refuse_arguments(self._function, arguments)
        others = self.machine.count - 1 - len(arguments)
        return 0, (0,) + arguments + (0,) * others

    def answer(self, configuration):
        """The value of register 0."""
        _, values = configuration
        return values[ANSWER]


class Writer:
    """Writes the instructions that find the value of a function, the last ones first.

    They take the arguments from the registers `inputs`, which they leave as
    they are, and bring the value into the register `output`, which is empty
    before. The registers from `free` on are empty before and behind them. The
    place `following` is where they go on.
    """

    def __init__(self, spare):
        self.listing = Listing(1)
        self.count = spare + 1
        self._spare = spare

    def code(self, function, inputs, output, free, following):
        """Writes instructions; returns the place at which they begin."""
        self.count = max(self.count, free)
        word = function[0]
        if word == "zero":
            return following
        if word == "next":
            return self._copying(inputs[0], output, self.listing.incs(output, 1, following))
        if word == "arg":
            return self._copying(inputs[function[2]], output, following)
        if word == "of":
            return self._of(function, inputs, output, free, following)
        if word == "repeat":
            return self._repeat(function, inputs, output, free, following)
        return self._least(function[1], inputs, output, free, following)

    def _of(self, function, inputs, output, free, following):
        """Brings the values of the inner functions into free registers."""
        _, outer, inner = function
        between = []
        made = []
        for part in inner:
            if part[0] == "arg":
                # It is there already, and stays as it is.
                between.append(inputs[part[2]])
            else:
                between.append(free)
                made.append((part, free))
                free += 1
        for _, which in made:
            following = self._emptying(which, following)
        following = self.code(outer, between, output, free, following)
        for part, which in reversed(made):
            following = self.code(part, inputs, which, free, following)
        return following

    def _repeat(self, function, inputs, output, free, following):
        """Counts a copy of the first argument down, and a number up from 0."""
        _, first, further = function
        rest = inputs[1:]
        left = free
        number = free + 1
        found = free + 2
        head = self.listing.place(("end",))
        behind = self.listing.incs(number, 1, head)
        behind = self._emptying(output, self.listing.pour(found, output, 1, behind))
        again = self.code(further, [number, output, *rest], found, free + 3, behind)
        self.listing.set_at(head, ("dec", left, again, self._emptying(number, following)))
        return self._copying(inputs[0], left, self.code(first, rest, output, free + 3, head))

    def _least(self, function, inputs, output, free, following):
        """Counts the output up until the function has the value 0."""
        test = self.listing.place(("end",))
        first = self.code(function, [output, *inputs], free, free + 1, test)
        emptying = self._emptying(free, self.listing.incs(output, 1, first))
        self.listing.set_at(test, ("dec", free, emptying, following))
        return first

    def _copying(self, giver, taker, following):
        """Adds the value of a register to another one, by way of the spare one."""
        back = self.listing.pour(self._spare, giver, 1, following)
        head = self.listing.place(("end",))
        further = self.listing.incs(taker, 1, self.listing.incs(self._spare, 1, head))
        self.listing.set_at(head, ("dec", giver, further, back))
        return head

    def _emptying(self, which, following):
        """Counts a register down to 0."""
        head = self.listing.place(("end",))
        self.listing.set_at(head, ("dec", which, head, following))
        return head
