"""Register programs with two registers: all values as one product of powers."""

from translatory.errors import NotFitting
from translatory.fractions import exponent, primes
from translatory.limits import refuse_large
from translatory.listings import Listing
from translatory.powers import product_of_powers
from translatory.registers import Registers

MOST_REGISTERS = 8
MOST_INSTRUCTIONS = 400
PRODUCT = 0
SPARE = 1


class RegistersToCounters:
    """A translation of a register program into one with exactly two registers."""

    def __init__(self, machine):
        if not _is_fitting(machine):
            raise NotFitting("no register program with so few registers and instructions")
        self.source = machine
        self._primes = primes(machine.count)
        self.target = Registers(2, _instructions(machine.instructions, self._primes))

    def picture(self, configuration):
        """The place, and the product of the primes to the powers of the values."""
        place, values = configuration
        refuse_large(sum(values))
        return place, (product_of_powers(self._primes, values), 0)

    def read_back(self, configuration):
        """The place, and the exponents of the primes."""
        place, values = configuration
        return place, tuple([exponent(prime, values[PRODUCT]) for prime in self._primes])

    def cost(self, configuration):
        """The steps that multiply or divide the product by a prime, or try to divide it."""
        place, values = self.picture(configuration)
        product = values[PRODUCT]
        instruction = self.source.instructions[place]
        prime = self._primes[instruction[1]]
        if instruction[0] == "inc":
            return product * (prime + 3) + 2
        quotient, remainder = divmod(product, prime)
        if remainder == 0:
            return product + quotient * 3 + 2
        return product + quotient * (prime + 2) + remainder + 2

    def last_steps(self, configuration):
        """The place of the picture has an "end", too."""
        return 0


def _is_fitting(machine):
    return (isinstance(machine, Registers) and machine.count <= MOST_REGISTERS
            and len(machine.instructions) <= MOST_INSTRUCTIONS)


def _instructions(instructions, register_primes):
    """The program; its first places are those of the source."""
    listing = Listing(len(instructions))
    for place, instruction in enumerate(instructions):
        if instruction[0] == "inc":
            _, which, following = instruction
            multiplying = listing.pour(SPARE, PRODUCT, register_primes[which], following)
            listing.pour_at(place, PRODUCT, SPARE, 1, multiplying)
        elif instruction[0] == "dec":
            _, which, following, other = instruction
            _write_dec(listing, place, register_primes[which], following, other)
    return listing.instructions


def _write_dec(listing, place, prime, following, other):
    """Divides the product by the prime, or makes it again if there is a remainder."""
    exits = [listing.pour(SPARE, PRODUCT, 1, following)]
    again = listing.pour(SPARE, PRODUCT, prime, other)
    for _ in range(prime - 1):
        # The remainder comes back first: from its exit on, through all lesser ones.
        again = listing.place(("inc", PRODUCT, again))
        exits.append(again)
    listing.divide_at(place, PRODUCT, SPARE, exits)
