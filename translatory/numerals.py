"""Integers as they are written, in decimal without signs and leading zeros."""

from translatory.errors import TooLarge

MOST_DIGITS = 4000
# An integer with more bits has more than 4000 digits. Python itself refuses
# to write one of more than 4300 digits, which has more bits than this, too.
MOST_BITS = 14000


def numeral(number):
    """The text of an integer that is not negative."""
    if number.bit_length() > MOST_BITS:
        raise TooLarge(MOST_DIGITS)
    digits = str(number)
    if len(digits) > MOST_DIGITS:
        raise TooLarge(MOST_DIGITS)
    return digits


def number_in(word, most_digits):
    """The integer that is written in a word, or None if there is none of so few digits."""
    if not word.isdigit() or len(word) > most_digits:
        return None
    if word[0] == "0" and word != "0":
        return None
    return int(word)


def numbers_in(words, most_digits):
    """The tuple of the integers that are written in words, or None if one is none."""
    numbers = tuple([number_in(word, most_digits) for word in words])
    if None in numbers:
        return None
    return numbers
