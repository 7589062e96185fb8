"""Turing machines as register programs: both sides of the tape as numbers."""

from translatory.errors import NotFitting
from translatory.listings import Listing
from translatory.registers import Registers
from translatory.turing import Turing, number_of, symbols_of

MOST_STATES = 100
MOST_SYMBOLS = 8
LEFT = 0
RIGHT = 1
SPARE = 2


class TuringToRegisters:
    """A translation of a Turing machine into a register program with three registers."""

    def __init__(self, machine):
        if not _is_fitting(machine):
            raise NotFitting("no Turing machine with so few states and symbols")
        self.source = machine
        self.target = Registers(3, _instructions(machine))

    def picture(self, configuration):
        """The place for state and symbol, and the numbers of both sides."""
        state, left, here, right = configuration
        symbols = self.source.symbols
        return state * symbols + here, (number_of(left, symbols), number_of(right, symbols), 0)

    def read_back(self, configuration):
        """The configuration with sides of these numbers."""
        place, values = configuration
        symbols = self.source.symbols
        state, here = divmod(place, symbols)
        return state, symbols_of(values[LEFT], symbols), here, symbols_of(values[RIGHT], symbols)

    def cost(self, configuration):
        """One step to stay; otherwise one side is multiplied and the other one divided."""
        _, values = self.picture(configuration)
        written, move, _ = self.source.rule(configuration[0], configuration[2])
        if move == 0:
            return 1
        grown, shrunk = _sides(move)
        symbols = self.source.symbols
        multiplying = values[grown] * (symbols + 3) + 2
        dividing = values[shrunk] + values[shrunk] // symbols * 3 + 2
        return multiplying + written + dividing

    def last_steps(self, configuration):
        """The place of the picture has an "end"."""
        return 0


def _is_fitting(machine):
    return (isinstance(machine, Turing) and machine.states <= MOST_STATES
            and machine.symbols <= MOST_SYMBOLS)


def _sides(move):
    """The register that grows and the one that shrinks in a move."""
    if move == 1:
        return LEFT, RIGHT
    return RIGHT, LEFT


def _instructions(machine):
    """The program; the first places are those for each state and symbol."""
    symbols = machine.symbols
    listing = Listing(machine.states * symbols)
    divisions = {}
    for state, symbol, written, move, following in machine.rules:
        head = state * symbols + symbol
        first = following * symbols
        if move == 0:
            # The spare register is empty, so this only goes on.
            listing.set_at(head, ("dec", SPARE, first + written, first + written))
            continue
        grown, shrunk = _sides(move)
        if (move, following) not in divisions:
            divisions[(move, following)] = _division(listing, symbols, shrunk, first)
        writing = listing.incs(grown, written, divisions[(move, following)])
        listing.pour_at(head, grown, SPARE, 1, listing.pour(SPARE, grown, symbols, writing))
    return listing.instructions


def _division(listing, symbols, shrunk, first):
    """Takes the nearest symbol off a side; returns the place at which this begins.

    The nearest symbol is the remainder; it goes on at the place `first` for
    the symbol 0, and so on.
    """
    exits = [listing.pour(SPARE, shrunk, 1, first + symbol) for symbol in range(symbols)]
    head = listing.place(("end",))
    listing.divide_at(head, shrunk, SPARE, exits)
    return head
