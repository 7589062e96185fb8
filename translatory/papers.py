"""Papers that show of a run that it never ends."""

from translatory.errors import BadArgument, NotFitting
from translatory.following import total_cost
from translatory.registers import Registers
from translatory.running import after, are_equal, history
from translatory.strings import Strings
from translatory.turing import Turing, without_end_blanks

GREATEST_NUMBER = 100000
GREATEST_LIMIT = 300


def is_paper(machine, configuration, paper):
    """True if the paper is right for the run from the configuration."""
    kind, first, second = paper
    if second > GREATEST_NUMBER:
        raise BadArgument("the second number is too great")
    if not _belongs(kind, machine):
        return False
    begin = None
    notes = []
    for number in range(second):
        if number == first:
            begin = configuration
        following = machine.step(configuration)
        if following is None:
            return False
        if begin is not None:
            notes.append(_note(machine, configuration))
        configuration = following
    if begin is None:
        return False
    if kind == "growth":
        return _is_growth(begin, configuration, notes)
    if kind == "shift":
        return _is_shift(begin, configuration, _head_cells(notes))
    return are_equal(begin, configuration)


def find_paper(machine, configuration, limit):
    """The first right paper with a second number of at most the limit, or None."""
    _refuse_limit(limit)
    return _found(machine, history(machine, configuration, limit))


def judge(machine, configuration, limit):
    """How the run ends within the limit, or a paper, or that the question is open."""
    _refuse_limit(limit)
    run = history(machine, configuration, limit)
    if len(run) <= limit or machine.step(run[-1]) is None:
        return "ends", len(run) - 1
    paper = _found(machine, run)
    if paper is None:
        return ("open",)
    return "loops", paper


def carried(translation, configuration, paper):
    """The paper for the target, from the picture, of a repeated configuration of the source."""
    kind, first, second = paper
    if kind != "repeat" or not 0 <= first < second or isinstance(translation.target, Strings):
        raise NotFitting("no paper that this translation carries")
    if not is_paper(translation.source, configuration, paper):
        raise NotFitting("the paper is not right")
    before = total_cost(translation, configuration, first)
    repeated = after(translation.source, configuration, first)
    return kind, before, before + total_cost(translation, repeated, second - first)


def _refuse_limit(limit):
    """Raises BadArgument for a limit up to which no papers are sought."""
    if not 0 <= limit <= GREATEST_LIMIT:
        raise BadArgument("the limit is out of its range")


def _belongs(kind, machine):
    """True if papers of the kind are for machines as this one."""
    if kind == "growth":
        return isinstance(machine, Registers)
    if kind == "shift":
        return isinstance(machine, Turing)
    return True


def _note(machine, configuration):
    """What a paper needs to know of a step.

    That is the move of a Turing machine, and the register that a "dec" finds
    empty, if there is one.
    """
    if isinstance(machine, Turing):
        state, _, here, _ = configuration
        _, move, _ = machine.rule(state, here)
        return move
    if isinstance(machine, Registers):
        place, values = configuration
        instruction = machine.instructions[place]
        if instruction[0] == "dec" and values[instruction[1]] == 0:
            return instruction[1]
    return None


def _head_cells(moves):
    """The cells of the head before and behind the moves, counted from the first one."""
    cells = [0]
    for move in moves:
        cells.append(cells[-1] + move)
    return cells


def _is_growth(one, other, emptied):
    """True if the program does at `other` for ever what it did from `one` on.

    `emptied` has the registers that were found empty in between, and None for
    the other steps.
    """
    place, values = one
    other_place, other_values = other
    if place != other_place:
        return False
    if not all([value <= grown for value, grown in zip(values, other_values)]):
        return False
    return all([values[which] == other_values[which] for which in emptied if which is not None])


def _is_shift(one, other, cells):
    """True if the machine does at `other` for ever what it did from `one` on.

    `cells` are those of the head, from the one to the other. Each cell of the
    first tape is compared with the one of the second tape that stands as far
    from the head.
    """
    state, left, here, right = one
    other_state, other_left, other_here, other_right = other
    if (state, here) != (other_state, other_here):
        return False
    moved = cells[-1] - cells[0]
    if moved > 0 and not _are_same(right, other_right) or moved < 0 and not _are_same(left, other_left):
        return False
    return (_are_near(left, other_left, cells[0] - min(cells))
            and _are_near(right, other_right, max(cells) - cells[0]))


def _are_same(side, other):
    """True if two sides are equal; long ones of different lengths are not compared."""
    return len(side) == len(other) and side == other


def _are_near(side, other, reach):
    """True if the `reach` nearest symbols of two sides are the same."""
    return without_end_blanks(side[:reach]) == without_end_blanks(other[:reach])


def _found(machine, run):
    """The first right paper for the configurations of a run, or None."""
    if isinstance(machine, Turing):
        return _found_shift(machine, run)
    if isinstance(machine, Registers):
        return _found_growth(machine, run)
    return _found_repeat(run)


def _found_repeat(run):
    """The first "repeat", or None."""
    firsts = {}
    for second, configuration in enumerate(run):
        first = firsts.setdefault(_flat(configuration), second)
        if first < second:
            return "repeat", first, second
    return None


def _flat(configuration):
    """What tells a configuration from all others, as terms may be too deep to be keys.

    If there are tuples in it, each one is told by None and the number of its parts.
    """
    if not isinstance(configuration, tuple) or not any([isinstance(part, tuple) for part in configuration]):
        return configuration
    flat = []
    waiting = [configuration]
    while waiting:
        part = waiting.pop()
        if isinstance(part, tuple):
            flat.extend([None, len(part)])
            waiting.extend(part)
        else:
            flat.append(part)
    return tuple(flat)


def _found_shift(machine, run):
    """The first "shift", which is a "repeat" where it can be one."""
    cells = _head_cells([_note(machine, configuration) for configuration in run[:-1]])
    earlier = {}
    for second, configuration in enumerate(run):
        state, _, here, _ = configuration
        firsts = earlier.setdefault((state, here), [])
        for first in firsts:
            if _is_shift(run[first], configuration, cells[first:second + 1]):
                return _named("shift", run, first, second)
        firsts.append(second)
    return None


def _found_growth(machine, run):
    """The first "growth", which is a "repeat" where it can be one."""
    emptied = [_note(machine, configuration) for configuration in run[:-1]]
    earlier = {}
    for second, configuration in enumerate(run):
        firsts = earlier.setdefault(configuration[0], [])
        for first in firsts:
            if _is_growth(run[first], configuration, emptied[first:second]):
                return _named("growth", run, first, second)
        firsts.append(second)
    return None


def _named(kind, run, first, second):
    """The paper of two numbers; where a configuration comes again, both kinds are right."""
    if run[first] == run[second]:
        return "repeat", first, second
    return kind, first, second
