"""Powers, and numbers as products of powers of primes."""


def power(base, exponent):
    """The base to the power of an exponent of any size."""
    result = 1
    for bit in reversed(range(exponent.bit_length())):
        result *= result
        if exponent >> bit & 1:
            result *= base
    return result


def product_of_powers(bases, exponents):
    """The product of each base to the power of its exponent."""
    result = 1
    for base, exponent in zip(bases, exponents):
        result *= power(base, exponent)
    return result


def factors(number, small_primes):
    """The primes whose product is a number of at least 1, each as often as it divides it.

    The ascending list `small_primes` has all primes whose squares are at most
    the number.
    """
    found = []
    for prime in small_primes:
        if prime * prime > number:
            break
        while number % prime == 0:
            found.append(prime)
            number //= prime
    if number > 1:
        found.append(number)
    return found
