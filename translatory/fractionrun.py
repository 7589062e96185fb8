"""Register programs as fractions, and fractions as register programs."""

from translatory.errors import NotFitting
from translatory.fractions import Fractions, exponent, primes
from translatory.limits import refuse_large
from translatory.listings import Listing
from translatory.powers import factors, product_of_powers
from translatory.registers import Registers

MOST_REGISTERS = 30
MOST_INSTRUCTIONS = 1000
MOST_FRACTIONS = 2000
MOST_PRIMES = 1000
LARGEST_NUMBER = 1000000
# There are so many primes whose squares are at most the largest number.
SMALL_PRIMES = 168


class RegistersToFractions:
    """A translation of a register program into a program of fractions.

    Each place has two primes: one while the program stands there, and one
    when it is about to come there. So an instruction that goes on at its own
    place needs no fraction with a common divisor.
    """

    def __init__(self, machine):
        if not _is_fitting_program(machine):
            raise NotFitting("no register program with so few registers and instructions")
        self.source = machine
        count = machine.count
        places = len(machine.instructions)
        found = primes(count + 2 * places)
        self._register_primes = found[:count]
        self._place_primes = found[count:count + places]
        self.target = Fractions(self._pairs(found[count + places:]))

    def picture(self, configuration):
        """The product of powers for the values, times the prime of the place."""
        place, values = configuration
        refuse_large(sum(values))
        return product_of_powers(self._register_primes, values) * self._place_primes[place]

    def read_back(self, configuration):
        """The place whose prime divides the integer, and the exponents for the values."""
        place = 0
        while configuration % self._place_primes[place] != 0:
            place += 1
        return place, tuple([exponent(prime, configuration) for prime in self._register_primes])

    def cost(self, configuration):
        """One step away from the place, and one to the next place."""
        return 2

    def last_steps(self, configuration):
        """No denominator has the prime of an "end"."""
        return 0

    def _pairs(self, coming):
        """The fractions; `coming` has the second prime of each place."""
        pairs = []
        for here, instruction in zip(self._place_primes, self.source.instructions):
            if instruction[0] == "inc":
                _, which, following = instruction
                pairs.append((coming[following] * self._register_primes[which], here))
            elif instruction[0] == "dec":
                _, which, following, other = instruction
                pairs.append((coming[following], here * self._register_primes[which]))
                pairs.append((coming[other], here))
        return pairs + list(zip(self._place_primes, coming))


class FractionsToRegisters:
    """A translation of a program of fractions into a register program.

    The place k of the target begins to try the fraction with the index k.
    """

    def __init__(self, machine):
        if not _is_fitting_list(machine):
            raise NotFitting("no program of so few fractions with so small numbers")
        self.source = machine
        self._primes = own_primes(machine)
        if len(self._primes) > MOST_PRIMES:
            raise NotFitting("too many primes")
        self._fractions = _split(machine.pairs, self._primes)
        self.target = Registers(max(1, len(self._primes)), _instructions(self._fractions))

    def picture(self, configuration):
        """The exponents of the own primes, at the place of the first fraction."""
        values = [exponent(prime, configuration) for prime in self._primes]
        if product_of_powers(self._primes, values) != configuration:
            raise NotFitting("the integer has another prime factor")
        if not values:
            values.append(0)
        return 0, tuple(values)

    def read_back(self, configuration):
        """The product of the own primes to the powers of the values."""
        _, values = configuration
        return product_of_powers(self._primes, values)

    def cost(self, configuration):
        """The steps that try all fractions up to the first one that fits."""
        return self._steps(configuration)

    def last_steps(self, configuration):
        """The steps that try all fractions."""
        return self._steps(configuration)

    def _steps(self, configuration):
        """The steps from the picture to the next picture, or to the end."""
        _, values = self.picture(configuration)
        steps = 0
        for gained, given in self._fractions:
            taken = _taken(given, values)
            if taken == len(given):
                return steps + taken + len(gained)
            # What was taken is brought back after the step that finds too little.
            steps += 2 * taken + 1
        return steps


def own_primes(machine):
    """The ascending list of the primes that divide a numerator or a denominator."""
    small_primes = primes(SMALL_PRIMES)
    found = {}
    for pair in machine.pairs:
        for number in pair:
            for prime in factors(number, small_primes):
                found[prime] = True
    return sorted(found)


def _is_fitting_program(machine):
    return (isinstance(machine, Registers) and machine.count <= MOST_REGISTERS
            and len(machine.instructions) <= MOST_INSTRUCTIONS)


def _is_fitting_list(machine):
    return (isinstance(machine, Fractions) and len(machine.pairs) <= MOST_FRACTIONS
            and max([max(pair) for pair in machine.pairs], default=1) <= LARGEST_NUMBER)


def _split(pairs, all_primes):
    """For each fraction the registers of the primes of its numerator and of its denominator.

    A register stands as often as its prime divides the number, side by side.
    """
    small_primes = primes(SMALL_PRIMES)
    registers = {prime: index for index, prime in enumerate(all_primes)}
    fractions = []
    for pair in pairs:
        gained, given = [[registers[prime] for prime in factors(number, small_primes)] for number in pair]
        fractions.append((gained, given))
    return fractions


def _taken(given, values):
    """How many of the registers, one after another, can be counted down by 1."""
    for taken, which in enumerate(given):
        if taken - given.index(which) >= values[which]:
            return taken
    return len(given)


def _instructions(fractions):
    """The program; its first places try the fractions, and the one behind them is the end."""
    listing = Listing(len(fractions) + 1)
    for place, (gained, given) in enumerate(fractions):
        _write_fraction(listing, place, gained, given)
    return listing.instructions


def _write_fraction(listing, place, gained, given):
    """Counts the registers of the denominator down, then those of the numerator up.

    Where one is empty, those before it are brought back, and the next
    fraction is tried.
    """
    following = 0
    # No jump is spent: 2000 fractions may need 98000 of 100000 places.
    rest = gained if given else gained[1:]
    for which in rest:
        following = listing.place(("inc", which, following))
    if not given:
        listing.set_at(place, ("inc", gained[0], following))
        return
    exits = [place + 1]
    for which in given[:-1]:
        exits.append(listing.place(("inc", which, exits[-1])))
    for index in range(len(given) - 1, 0, -1):
        following = listing.place(("dec", given[index], following, exits[index]))
    listing.set_at(place, ("dec", given[0], following, exits[0]))
