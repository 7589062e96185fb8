"""Recursive functions: tuples that say how a value is found."""

from translatory.errors import BadArgument, InvalidFunction, TooLong

MOST_ARGUMENTS = 6
GREATEST_DEPTH = 12
MOST_FUNCTIONS = 200


def is_function(thing):
    """True if the thing keeps the rules of functions."""
    return _is_small(thing) and _arity_or_none(thing) is not None


def arity(function):
    """The number of the arguments of a function."""
    return _arity_or_none(function)


def value(function, arguments, *, limit=100000):
    """The value of the function for the arguments, found by at most `limit` applications."""
    refuse_arguments(function, arguments)
    return Work(limit).applied(function, arguments)


def applications(function, arguments, *, limit=100000):
    """How many applications the value needs."""
    refuse_arguments(function, arguments)
    work = Work(limit)
    work.applied(function, arguments)
    return work.done


def refuse_thing(thing):
    """Raises InvalidFunction if the thing is no function."""
    if not is_function(thing):
        raise InvalidFunction("no function")


def refuse_arguments(function, arguments):
    """Raises an error if there is no function, or if it does not take these arguments."""
    refuse_thing(function)
    if len(arguments) != arity(function):
        raise BadArgument("too many or too few arguments")
    if min(arguments, default=0) < 0:
        raise BadArgument("an argument is negative")


class Work:
    """Applies functions, and counts how often it does."""

    def __init__(self, limit):
        self.done = 0
        self._limit = limit

    def applied(self, function, arguments):
        """The value of a function for arguments."""
        if self.done >= self._limit:
            raise TooLong(self._limit)
        self.done += 1
        word = function[0]
        if word == "zero":
            return 0
        if word == "next":
            return arguments[0] + 1
        if word == "arg":
            return arguments[function[2]]
        if word == "of":
            _, outer, inner = function
            return self.applied(outer, tuple([self.applied(part, arguments) for part in inner]))
        if word == "repeat":
            return self._repeated(function, arguments)
        return self._least(function[1], arguments)

    def _repeated(self, function, arguments):
        """The value of a "repeat"."""
        _, first, further = function
        times, *rest = arguments
        found = self.applied(first, tuple(rest))
        for number in range(times):
            found = self.applied(further, (number, found, *rest))
        return found

    def _least(self, function, arguments):
        """The least number for which the function has the value 0."""
        number = 0
        while self.applied(function, (number, *arguments)) != 0:
            number += 1
        return number


def _is_small(thing):
    """True if depth and number of parts are within their limits.

    A thing may have the same part in so many places that not all of them can be looked at.
    """
    count = 0
    waiting = [(thing, 1)]
    while waiting:
        part, depth = waiting.pop()
        count += 1
        if depth > GREATEST_DEPTH or count > MOST_FUNCTIONS:
            return False
        waiting.extend([(inner, depth + 1) for inner in _parts(part)])
    return True


def _parts(thing):
    """The things that stand directly in a thing."""
    if thing[0] == "of":
        return thing[1], *thing[2]
    if thing[0] == "repeat" or thing[0] == "least":
        return thing[1:]
    return ()


def _arity_or_none(thing):
    """The arity of a thing of a small depth, or None if it is no function."""
    word = thing[0]
    if word == "next":
        return 1
    if word == "zero":
        return thing[1] if 0 <= thing[1] <= MOST_ARGUMENTS else None
    if word == "arg":
        _, count, which = thing
        return count if 1 <= count <= MOST_ARGUMENTS and 0 <= which < count else None
    arities = [_arity_or_none(part) for part in _parts(thing)]
    if None in arities:
        return None
    outer, *inner = arities
    if word == "of":
        is_fitting = len(inner) >= 1 and len(inner) == outer and min(inner) == max(inner)
        return inner[0] if is_fitting else None
    if word == "repeat":
        # No arity is above 6, so that of the first function is small enough.
        return outer + 1 if inner[0] == outer + 2 else None
    return outer - 1 if outer >= 1 else None


def _add():
    return "repeat", ("arg", 1, 0), _one_more_than(("arg", 3, 1))


def _times():
    return "repeat", ("zero", 1), ("of", _add(), (("arg", 3, 2), ("arg", 3, 1)))


def _before():
    return "repeat", ("zero", 0), ("arg", 2, 0)


def _less():
    return "of", _less_from(), (("arg", 2, 1), ("arg", 2, 0))


def _less_from():
    """The second argument less the first one, as a "repeat" goes over the first one."""
    return "repeat", ("arg", 1, 0), ("of", _before(), (("arg", 3, 1),))


def _is_null():
    return "repeat", _one_more_than(("zero", 0)), ("zero", 2)


def _half():
    """The least k with 2 k + 1 of at least the argument."""
    double = ("of", _add(), (("arg", 2, 0), ("arg", 2, 0)))
    return "least", ("of", _less_from(), (_one_more_than(double), ("arg", 2, 1)))


def _root():
    """The least k with a square of k + 1 that is greater than the argument."""
    side = _one_more_than(("arg", 2, 0))
    square = ("of", _times(), (side, side))
    return "least", ("of", _less_from(), (square, _one_more_than(("arg", 2, 1))))


def _one_more_than(function):
    return "of", ("next",), (function,)


MAKERS = {
    "add": _add,
    "times": _times,
    "before": _before,
    "less": _less,
    "isnull": _is_null,
    "half": _half,
    "root": _root,
}


def named(word):
    """One of the functions that have a name."""
    maker = MAKERS.get(word)
    if maker is None:
        raise BadArgument("no function has this name")
    return maker()
