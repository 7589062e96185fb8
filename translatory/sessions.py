"""Sessions: a machine and a configuration, and what is done with them line by line."""

from translatory.binarytapes import TuringToBinary
from translatory.configtext import format_configuration, parse_configuration
from translatory.countertapes import CountersToTuring
from translatory.errors import InvalidText, NotFitting, TooLarge, TooLong
from translatory.fractionrun import FractionsToRegisters, RegistersToFractions
from translatory.fractions import Fractions
from translatory.machinetext import kind_of, parse_machine
from translatory.numerals import number_in
from translatory.papers import GREATEST_LIMIT, judge
from translatory.stringtapes import TuringToStrings
from translatory.tags import Tags
from translatory.tagtapes import TagsToTuring, TuringToTags
from translatory.tapenumbers import TuringToRegisters
from translatory.twocounters import RegistersToCounters
from translatory.universal import ToUniversal
from translatory.withouti import WithoutI

MOST_DIGITS = 3
BAD_LINE = "bad line"
NO_MACHINE = "no machine"
WORDS = ("registers", "counters", "turing", "fractions", "binary", "tags", "strings", "universal", "sk")


def hold(text):
    """The list of the replies to the lines of a session."""
    session = Session()
    replies = [session.reply(line) for line in text.split("\n")]
    return [reply for reply in replies if reply is not None]


class Session:
    """A machine and a configuration, which are None as long as there are none."""

    def __init__(self):
        self._machine = None
        self._configuration = None
        # The lines of a machine that is being written.
        self._lines = None

    def reply(self, line):
        """The reply to a line, or None if it has none."""
        if self._lines is not None:
            return self._machine_reply(line)
        if line == "load":
            self._lines = []
            return None
        word, _, rest = line.partition(" ")
        if word == "set":
            return self._set(rest)
        if not _is_command(line):
            return BAD_LINE
        if self._configuration is None:
            return NO_MACHINE
        try:
            return self._command_reply(word, rest)
        except NotFitting:
            return "no translation"
        except (TooLarge, TooLong):
            return "too large"

    def _machine_reply(self, line):
        """The reply to a line of a written machine, or to the one behind them."""
        if line != ".":
            self._lines.append(line)
            return None
        text = "\n".join(self._lines)
        self._lines = None
        try:
            machine = parse_machine(text)
        except InvalidText:
            return "bad machine"
        self._machine = machine
        self._configuration = None
        return f"loaded {kind_of(machine)}"

    def _set(self, text):
        """Sets the configuration; without a machine no text can be told to be one."""
        if self._machine is None:
            return NO_MACHINE
        try:
            self._configuration = parse_configuration(self._machine, text)
        except InvalidText:
            return BAD_LINE
        return "set"

    def _command_reply(self, word, rest):
        """Does a command for which there is a configuration."""
        if word == "show":
            return format_configuration(self._machine, self._configuration)
        if word == "run":
            return f"ran {self._run(int(rest))}"
        if word == "judge":
            return _judgement(judge(self._machine, self._configuration, int(rest)))
        translation = _translation(rest, self._machine)
        self._configuration = translation.picture(self._configuration)
        self._machine = translation.target
        return f"now {kind_of(self._machine)}"

    def _run(self, count):
        """Makes steps, at most so many; returns how many."""
        steps = 0
        configuration = self._configuration
        while steps < count:
            following = self._machine.step(configuration)
            if following is None:
                break
            configuration = following
            steps += 1
        self._configuration = configuration
        return steps


def _is_command(line):
    """True if the line has the form of a command for which there is to be a configuration."""
    word, _, rest = line.partition(" ")
    if word == "to":
        return rest in WORDS
    if word == "run":
        return number_in(rest, MOST_DIGITS) is not None
    if word == "judge":
        limit = number_in(rest, MOST_DIGITS)
        return limit is not None and limit <= GREATEST_LIMIT
    return line == "show"


def _judgement(judged):
    """The reply for what `judge` says."""
    if judged[0] == "ends":
        return f"ends {judged[1]}"
    if judged[0] == "loops":
        kind, first, second = judged[1]
        return f"loops {kind} {first} {second}"
    return "open"


def _translation(word, machine):
    """The translation of the machine that the word asks for."""
    if word == "registers":
        if isinstance(machine, Fractions):
            return FractionsToRegisters(machine)
        return TuringToRegisters(machine)
    if word == "counters":
        return RegistersToCounters(machine)
    if word == "turing":
        if isinstance(machine, Tags):
            return TagsToTuring(machine)
        return CountersToTuring(machine)
    if word == "fractions":
        return RegistersToFractions(machine)
    if word == "binary":
        return TuringToBinary(machine)
    if word == "tags":
        return TuringToTags(machine)
    if word == "strings":
        return TuringToStrings(machine)
    if word == "universal":
        return ToUniversal(machine)
    return WithoutI(machine)
