"""Recursive functions that several tests use, and what point 35 says of them."""

NEXT = ("next",)
ADD = ("repeat", ("arg", 1, 0), ("of", NEXT, (("arg", 3, 1),)))
# For 1, and for arguments behind it, the value is 0; so the least such number is 1.
ONE_BEFORE_ZERO = ("repeat", ("of", NEXT, (("zero", 1),)), ("zero", 3))
# The least k with k + x = 0: there is one for 0 alone.
ONLY_NULL = ("least", ADD)
# Without a value, whatever the argument is.
NEVER = ("least", ("of", NEXT, (("arg", 2, 0),)))


class Spent(Exception):
    """More applications are needed than were allowed."""


def reference(function, arguments, allowed=100000):
    """The value and the number of applications, by the words of points 34 and 35."""
    spent = [0]

    def apply(function, arguments):
        spent[0] += 1
        if spent[0] > allowed:
            raise Spent
        match function:
            case ("zero", _):
                return 0
            case ("next",):
                return arguments[0] + 1
            case ("arg", _, index):
                return arguments[index]
            case ("of", outer, inner):
                return apply(outer, [apply(part, arguments) for part in inner])
            case ("repeat", first, further):
                found = apply(first, arguments[1:])
                for number in range(arguments[0]):
                    found = apply(further, [number, found] + list(arguments[1:]))
                return found
            case ("least", inner):
                number = 0
                while apply(inner, [number] + list(arguments)) != 0:
                    number += 1
                return number

    return apply(function, list(arguments)), spent[0]


def some_function(random, arity, depth):
    """A function of the arity, of at most the depth."""
    kinds = ["zero"] + ["arg"] * (2 if arity else 0) + ["next"] * (3 if arity == 1 else 0)
    if depth > 1:
        kinds += ["of"] * 4
        kinds += ["repeat"] * (4 if 1 <= arity <= 5 else 0) + ["least"] * (1 if arity <= 5 else 0)
    kind = random.choice(kinds)
    if kind == "zero":
        return kind, arity
    if kind == "next":
        return (kind,)
    if kind == "arg":
        return kind, arity, random.randrange(arity)
    if kind == "of":
        inner = [some_function(random, arity, depth - 1) for _ in range(random.randint(1, 3))]
        return kind, some_function(random, len(inner), depth - 1), tuple(inner)
    if kind == "repeat":
        return kind, some_function(random, arity - 1, depth - 1), some_function(random, arity + 1, depth - 1)
    return kind, some_function(random, arity + 1, depth - 1)


def parts(function):
    """The functions that stand directly in a function."""
    if function[0] == "of":
        return [function[1], *function[2]]
    return list(function[1:]) if function[0] in ("repeat", "least") else []


def depth_of(function):
    return 1 + max([depth_of(part) for part in parts(function)], default=0)


def count_of(function):
    return 1 + sum(count_of(part) for part in parts(function))


def deep(depth):
    """The argument and 1 more for each of so many functions within each other."""
    function = NEXT
    for _ in range(depth - 1):
        function = ("of", NEXT, (function,))
    return function


# The second argument less the first one.
LESS_FROM = ("repeat", ("arg", 1, 0), ("of", ("repeat", ("zero", 0), ("arg", 2, 0)), (("arg", 3, 1),)))


def deep_mixed(kinds):
    """A function of the arity 2 in which functions of these kinds stand within each other."""
    function = ("arg", 2, 0)
    for kind in kinds:
        if kind == "swap":
            function = ("of", function, (("arg", 2, 1), ("arg", 2, 0)))
        elif kind == "of":
            function = ("of", ("arg", 2, 0), (function, ("arg", 2, 1)))
        elif kind == "repeat":
            function = ("repeat", NEXT, ("of", function, (("arg", 3, 1), ("arg", 3, 2))))
        else:
            # The least number that is not less than the value.
            inner = ("of", function, (("arg", 3, 1), ("arg", 3, 2)))
            function = ("least", ("of", LESS_FROM, (("arg", 3, 0), inner)))
    return function


DEEPEST = [deep_mixed(["of", "repeat", "swap", "of", "repeat", "swap", "of", "repeat"]),
           deep_mixed(["least", "of", "repeat", "least"]),
           deep_mixed(["repeat", "least", "repeat", "of", "least"]), deep_mixed(["swap"] * 11)]


def wide(*sizes):
    """A function of the arity 1 with inner functions of these sizes."""
    inner = [("arg", 1, 0) if size == 1 else wide(*[1] * (size - 2)) for size in sizes]
    return "of", ("arg", len(inner), len(inner) - 1), tuple(inner)


def of_count(more):
    """A function of 198 functions and `more`, which is from 0 to 4."""
    fifty = wide(8, 8, 8, 8, 8, 8)
    last = wide(8, 8, 8, 8, 8, 4 + more)
    return "of", ("arg", 4, 3), (fifty, fifty, fifty, last)
