"""Following a run through a translation."""

from translatory.running import after, are_equal, last, refuse_negative
from translatory.strings import Strings


def total_cost(translation, configuration, count):
    """The sum of the costs of the first `count` steps of the source."""
    refuse_negative(count)
    total = 0
    for _ in range(count):
        following = translation.source.step(configuration)
        if following is None:
            break
        total += translation.cost(configuration)
        configuration = following
    return total


def stands_at(translation, configuration, count):
    """Where the target stands when the source has made `count` steps."""
    refuse_negative(count)
    picture = translation.picture(configuration)
    return after(translation.target, picture, total_cost(translation, configuration, count))


def answer_through(translation, configuration, limit):
    """The last configuration of the source, found by running the target alone."""
    refuse_negative(limit)
    picture = translation.picture(configuration)
    return translation.read_back(last(translation.target, picture, limit))


def is_same_run(translation, configuration, count):
    """True if the target runs as it should along `count` steps of the source."""
    refuse_negative(count)
    target = translation.target
    has_many_pictures = isinstance(target, Strings)
    place = translation.picture(configuration)
    for _ in range(count):
        following = translation.source.step(configuration)
        if following is None:
            break
        # If the next picture is refused, the long way to it need not be made.
        expected = following if has_many_pictures else translation.picture(following)
        place = _after_exactly(target, place, translation.cost(configuration), 1)
        if place is None:
            return False
        reached = translation.read_back(place) if has_many_pictures else place
        if not are_equal(reached, expected):
            return False
        configuration = following
    if translation.source.step(configuration) is not None:
        return True
    place = _after_exactly(target, place, translation.last_steps(configuration), 0)
    if place is None or target.step(place) is not None:
        return False
    return are_equal(translation.read_back(place), configuration)


def _after_exactly(machine, configuration, steps, least):
    """The configuration after `steps` steps, at least `least`, or None if there is none."""
    if steps < least:
        return None
    for _ in range(steps):
        configuration = machine.step(configuration)
        if configuration is None:
            return None
    return configuration
