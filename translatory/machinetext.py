"""Machines as texts."""

from translatory.combinators import Combinators
from translatory.errors import InvalidMachine, InvalidText
from translatory.fractions import Fractions
from translatory.numerals import numbers_in, numeral
from translatory.registers import Registers
from translatory.strings import Strings
from translatory.tags import Tags
from translatory.turing import Turing

MOST_DIGITS = 30
# The letters of the moves -1, 0 and 1.
MOVES = ("L", "S", "R")
INSTRUCTION_NUMBERS = {"inc": 2, "dec": 3, "end": 0}


def format_machine(machine):
    """The text of a machine."""
    if isinstance(machine, Turing):
        lines = _turing_lines(machine)
    elif isinstance(machine, Registers):
        lines = _register_lines(machine)
    elif isinstance(machine, Fractions):
        lines = [_line(pair) for pair in machine.pairs]
    elif isinstance(machine, Tags):
        lines = [_production_line(production) for production in machine.productions]
    elif isinstance(machine, Strings):
        lines = [_line((*left, "to", *right)) for left, right in machine.rules]
    else:
        lines = []
    return "\n".join([_head_line(machine)] + lines)


def kind_of(machine):
    """The first word of the text of a machine."""
    if isinstance(machine, Turing):
        return "turing"
    if isinstance(machine, Registers):
        return "registers"
    if isinstance(machine, Fractions):
        return "fractions"
    if isinstance(machine, Tags):
        return "tags"
    if isinstance(machine, Strings):
        return "strings"
    return "combinators"


def parse_machine(text):
    """The machine of a text."""
    lines = [line.split(" ") for line in text.split("\n")]
    reader = READERS.get(lines[0][0])
    if reader is None:
        raise InvalidText(1)
    try:
        return reader(lines)
    except InvalidMachine:
        raise InvalidText(len(lines)) from None


def _line(parts):
    """The line of words and integers."""
    return " ".join([part if isinstance(part, str) else numeral(part) for part in parts])


def _head_line(machine):
    """The first line of the text of a machine."""
    kind = kind_of(machine)
    if kind == "turing":
        return _line((kind, machine.states, machine.symbols))
    if kind == "registers":
        return _line((kind, machine.count))
    if kind == "combinators":
        return _line((kind, machine.letters))
    return kind


def _turing_lines(machine):
    return [_line((state, symbol, written, MOVES[move + 1], following))
            for state, symbol, written, move, following in machine.rules]


def _register_lines(machine):
    return [_line(instruction) for instruction in machine.instructions]


def _production_line(production):
    if production is None:
        return "none"
    return _line(("to", *production))


def _numbers(words, count, line):
    """The integers in exactly `count` words of a line."""
    numbers = _any_numbers(words, line)
    if len(numbers) != count:
        raise InvalidText(line)
    return numbers


def _any_numbers(words, line):
    """The integers in the words of a line."""
    numbers = numbers_in(words, MOST_DIGITS)
    if numbers is None:
        raise InvalidText(line)
    return numbers


def _read_turing(lines):
    states, symbols = _numbers(lines[0][1:], 2, 1)
    rules = []
    for line, words in enumerate(lines[1:], start=2):
        if len(words) != 5 or words[3] not in MOVES:
            raise InvalidText(line)
        state, symbol, written, following = _numbers(words[:3] + words[4:], 4, line)
        rule = (state, symbol, written, MOVES.index(words[3]) - 1, following)
        if rules and rule <= rules[-1]:
            raise InvalidText(line)
        rules.append(rule)
    return Turing(states, symbols, rules)


def _read_registers(lines):
    numbers = _numbers(lines[0][1:], 1, 1)
    instructions = []
    for line, words in enumerate(lines[1:], start=2):
        if words[0] not in INSTRUCTION_NUMBERS:
            raise InvalidText(line)
        instructions.append((words[0], *_numbers(words[1:], INSTRUCTION_NUMBERS[words[0]], line)))
    return Registers(numbers[0], instructions)


def _read_fractions(lines):
    _numbers(lines[0][1:], 0, 1)
    return Fractions([_numbers(words, 2, line) for line, words in enumerate(lines[1:], start=2)])


def _read_tags(lines):
    _numbers(lines[0][1:], 0, 1)
    productions = []
    for line, words in enumerate(lines[1:], start=2):
        if words == ["none"]:
            productions.append(None)
        elif words[0] == "to":
            productions.append(_any_numbers(words[1:], line))
        else:
            raise InvalidText(line)
    return Tags(productions)


def _read_strings(lines):
    _numbers(lines[0][1:], 0, 1)
    rules = []
    for line, words in enumerate(lines[1:], start=2):
        middle = words.index("to") if "to" in words else 0
        if middle == 0:
            raise InvalidText(line)
        rules.append((_any_numbers(words[:middle], line), _any_numbers(words[middle + 1:], line)))
    return Strings(rules)


def _read_combinators(lines):
    if len(lines[0]) != 2 or not _are_letters(lines[0][1]):
        raise InvalidText(1)
    if len(lines) > 1:
        raise InvalidText(2)
    return Combinators(lines[0][1])


def _are_letters(word):
    """True if the word has some of the letters, in their order."""
    return word in ("S", "K", "I", "SK", "SI", "KI", "SKI")


READERS = {
    "turing": _read_turing,
    "registers": _read_registers,
    "fractions": _read_fractions,
    "tags": _read_tags,
    "strings": _read_strings,
    "combinators": _read_combinators,
}
