"""Runs of machines of every kind."""

from translatory.errors import BadArgument, TooLong


def after(machine, configuration, count):
    """The configuration after `count` steps, or the last one of a shorter run."""
    _refuse_negative(count)
    for _ in range(count):
        following = machine.step(configuration)
        if following is None:
            break
        configuration = following
    return configuration


def history(machine, configuration, count):
    """The configurations of the first `count` steps, the first one included."""
    _refuse_negative(count)
    configurations = [configuration]
    for _ in range(count):
        configuration = machine.step(configuration)
        if configuration is None:
            break
        configurations.append(configuration)
    return configurations


def length(machine, configuration, limit):
    """The number of steps of the run, or None if it has more than `limit`."""
    end = _end(machine, configuration, limit)
    if end is None:
        return None
    steps, _ = end
    return steps


def last(machine, configuration, limit):
    """The configuration at which the run ends, after at most `limit` steps."""
    end = _end(machine, configuration, limit)
    if end is None:
        raise TooLong(limit)
    _, configuration = end
    return configuration


def _end(machine, configuration, limit):
    """The number of steps of the run and its last configuration, or None beyond the limit."""
    _refuse_negative(limit)
    for steps in range(limit + 1):
        following = machine.step(configuration)
        if following is None:
            return steps, configuration
        configuration = following
    return None


def _refuse_negative(number):
    if number < 0:
        raise BadArgument("a number of steps is negative")
