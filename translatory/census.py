"""All Turing machines with two symbols in order, and what becomes of their runs."""

from translatory.errors import BadArgument
from translatory.papers import judge
from translatory.powers import power
from translatory.running import after
from translatory.turing import Turing, content, start

MOST_STATES = 6
MOST_MACHINES = 2000
MARK = 1


def machine_count(states):
    """How many machines with so many states there are."""
    _refuse_states(states)
    return power(_entry_count(states), 2 * states)


def machine_at(states, index):
    """The machine with the index."""
    _refuse_index(states, index)
    rules = []
    for pair in range(2 * states):
        index, entry = divmod(index, _entry_count(states))
        if entry > 0:
            rules.append(_rule(pair, entry))
    return Turing(states, 2, rules)


def index_of(machine):
    """The index of a machine with two symbols."""
    _refuse_states(machine.states)
    if machine.symbols != 2:
        raise BadArgument("the machine has not two symbols")
    index = 0
    for pair in reversed(range(2 * machine.states)):
        rule = machine.rule(pair // 2, pair & 1)
        index = index * _entry_count(machine.states) + _entry(rule)
    return index


def census(states, first, last, limit):
    """The numbers of runs that end, loop and are open; and the most steps and marks."""
    _refuse_index(states, first)
    _refuse_index(states, last)
    if first > last or last - first >= MOST_MACHINES:
        raise BadArgument("the range is empty or too long")
    counts = {"ends": 0, "loops": 0, "open": 0}
    most_steps = None
    most_marks = None
    begin = start(())
    for index in range(first, last + 1):
        machine = machine_at(states, index)
        word, *told = judge(machine, begin, limit)
        counts[word] += 1
        if word == "ends":
            marks = content(after(machine, begin, told[0])).count(MARK)
            most_steps = _greater(most_steps, told[0], index)
            most_marks = _greater(most_marks, marks, index)
    return counts["ends"], counts["loops"], counts["open"], most_steps, most_marks


def _refuse_states(states):
    """Raises BadArgument for a number of states that is out of its range."""
    if not 1 <= states <= MOST_STATES:
        raise BadArgument("the number of states is out of its range")


def _refuse_index(states, index):
    """Raises BadArgument for a wrong number of states, or if there is no such index."""
    if not 0 <= index < machine_count(states):
        raise BadArgument("there is no such index")


def _entry_count(states):
    """How many entries there are for a pair of a state and a symbol."""
    return 6 * states + 1


def _entry(rule):
    """The entry of a tuple `(written, move, next)`, or of None."""
    if rule is None:
        return 0
    written, move, following = rule
    return 1 + 3 * (2 * following + written) + move + 1


def _rule(pair, entry):
    """The rule of an entry of at least 1 for a pair."""
    number, move = divmod(entry - 1, 3)
    return pair // 2, pair & 1, number & 1, move - 1, number // 2


def _greater(most, number, index):
    """The pair of the greater number and its index; of equal numbers the one before stays."""
    if most is None or number > most[0]:
        return number, index
    return most
