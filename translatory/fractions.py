"""Programs of fractions, and primes."""

from math import gcd

from translatory.errors import InvalidMachine

MOST_FRACTIONS = 100000


class Fractions:
    """A fraction program; its configurations are integers of at least 1."""

    def __init__(self, pairs):
        if len(pairs) > MOST_FRACTIONS:
            raise InvalidMachine("there are too many fractions")
        for numerator, denominator in pairs:
            if not _is_fraction(numerator, denominator):
                raise InvalidMachine("a fraction is not as it should be")
        self.pairs = tuple(pairs)

    def __eq__(self, other):
        return isinstance(other, Fractions) and self.pairs == other.pairs

    def step(self, configuration):
        """The integer times the first fraction that fits, or None."""
        for numerator, denominator in self.pairs:
            if configuration % denominator == 0:
                return configuration // denominator * numerator
        return None


def primes(count):
    """The first `count` primes."""
    limit = 16
    found = _primes_below(limit)
    while len(found) < count:
        limit *= 2
        found = _primes_below(limit)
    return found[:count]


def exponent(prime, number):
    """How often the prime divides a number of at least 1."""
    # Dividing by squares of squares keeps high powers fast.
    powers = []
    power = prime
    while number % power == 0:
        powers.append(power)
        power *= power
    times = 0
    for power in reversed(powers):
        times *= 2
        if number % power == 0:
            number //= power
            times += 1
    return times


def _is_fraction(numerator, denominator):
    """True if the two numbers make a fraction that a program may have."""
    if numerator < 1 or denominator < 1:
        return False
    return gcd(numerator, denominator) == 1 and (numerator, denominator) != (1, 1)


def _primes_below(limit):
    """All primes less than `limit`, which is at least 2."""
    is_prime = [True] * limit
    for number in range(2, limit):
        if number * number >= limit:
            break
        if is_prime[number]:
            for multiple in range(number * number, limit, number):
                is_prime[multiple] = False
    return [number for number in range(2, limit) if is_prime[number]]
