"""Configurations as texts of one line."""

from translatory.combinators import LARGEST, Combinators, all_parts, parse_term, show_term
from translatory.errors import InvalidText
from translatory.fractions import Fractions
from translatory.numerals import MOST_DIGITS, number_in, numbers_in, numeral
from translatory.registers import Registers
from translatory.tags import Tags
from translatory.turing import Turing

BETWEEN = " : "
NOTHING = "-"


def format_configuration(machine, configuration):
    """The text of a configuration of the machine."""
    if isinstance(machine, Turing):
        state, left, here, right = configuration
        return BETWEEN.join([numeral(state), _written(left), numeral(here), _written(right)])
    if isinstance(machine, Registers):
        place, values = configuration
        return BETWEEN.join([numeral(place), _written(values)])
    if isinstance(machine, Fractions):
        return numeral(configuration)
    if isinstance(machine, Combinators):
        return show_term(configuration)
    return _written(configuration)


def parse_configuration(machine, text):
    """The configuration of the machine that has the text."""
    if isinstance(machine, Combinators):
        return _read_term(machine, text)
    configuration = _read(machine, text)
    if configuration is None:
        raise InvalidText(1)
    return configuration


def _written(symbols):
    """The text of a tuple of integers."""
    if not symbols:
        return NOTHING
    return " ".join([numeral(symbol) for symbol in symbols])


def _symbols_in(text):
    """The tuple of integers that has the text, or None."""
    if text == NOTHING:
        return ()
    return numbers_in(text.split(" "), MOST_DIGITS)


def _read(machine, text):
    """The configuration, which is no term, that has the text, or None."""
    if isinstance(machine, Turing):
        return _read_tape(machine, text)
    if isinstance(machine, Registers):
        return _read_values(machine, text)
    if isinstance(machine, Fractions):
        number = number_in(text, MOST_DIGITS)
        return None if number == 0 else number
    symbols = _symbols_in(text)
    if symbols is None:
        return None
    if isinstance(machine, Tags) and max(symbols, default=-1) >= len(machine.productions):
        return None
    return symbols


def _read_tape(machine, text):
    parts = text.split(BETWEEN)
    if len(parts) != 4:
        return None
    state = number_in(parts[0], MOST_DIGITS)
    left = _symbols_in(parts[1])
    here = number_in(parts[2], MOST_DIGITS)
    right = _symbols_in(parts[3])
    if state is None or left is None or here is None or right is None:
        return None
    configuration = (state, left, here, right)
    return configuration if machine.is_configuration(configuration) else None


def _read_values(machine, text):
    parts = text.split(BETWEEN)
    if len(parts) != 2:
        return None
    place = number_in(parts[0], MOST_DIGITS)
    values = _symbols_in(parts[1])
    if place is None or values is None:
        return None
    configuration = (place, values)
    return configuration if machine.is_configuration(configuration) else None


def _read_term(machine, text):
    """The term of the text, if the text is written with the fewest brackets and without spaces."""
    term = parse_term(text)
    letters = [part for part in all_parts(term) if not isinstance(part, tuple)]
    if len(letters) > LARGEST or show_term(term) != text:
        raise InvalidText(1)
    if not all([letter in machine.letters for letter in letters]):
        raise InvalidText(1)
    return term
