"""Runs of machines of every kind."""

from translatory.errors import BadArgument, TooLong


def after(machine, configuration, count):
    """The configuration after `count` steps, or the last one of a shorter run."""
    refuse_negative(count)
    for _ in range(count):
        following = machine.step(configuration)
        if following is None:
            break
        configuration = following
    return configuration


def history(machine, configuration, count):
    """The configurations of the first `count` steps, the first one included."""
    refuse_negative(count)
    configurations = [configuration]
    for _ in range(count):
        configuration = machine.step(configuration)
        if configuration is None:
            break
        configurations.append(configuration)
    return configurations


def length(machine, configuration, limit):
    """The number of steps of the run, or None if it has more than `limit`."""
    end = _end(machine, configuration, limit)
    if end is None:
        return None
    steps, _ = end
    return steps


def last(machine, configuration, limit):
    """The configuration at which the run ends, after at most `limit` steps."""
    end = _end(machine, configuration, limit)
    if end is None:
        raise TooLong(limit)
    _, configuration = end
    return configuration


def _end(machine, configuration, limit):
    """The number of steps of the run and its last configuration, or None beyond the limit."""
    refuse_negative(limit)
    for steps in range(limit + 1):
        following = machine.step(configuration)
        if following is None:
            return steps, configuration
        configuration = following
    return None


def refuse_negative(number):
    """Raises BadArgument for a number of steps that there is not."""
    if number < 0:
        raise BadArgument("a number of steps is negative")


def are_equal(one, other):
    """True if two configurations are equal, however deep their tuples are."""
    waiting = [(one, other)]
    while waiting:
        one, other = waiting.pop()
        if not (isinstance(one, tuple) and isinstance(other, tuple)):
            if one != other:
                return False
        elif len(one) != len(other):
            return False
        else:
            waiting.extend(list(zip(one, other)))
    return True
