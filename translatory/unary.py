"""Numbers as terms: a unary term applies its first argument so many times to its second one."""

from translatory.combinators import ARGUMENTS_NEEDED, LARGEST, all_parts
from translatory.errors import BadArgument, TooLarge, TooLong

GREATEST = 1000
ZERO = ("K", "I")
# Applied to f, g and x it becomes f applied to g applied to x.
COMPOSING = (("S", ("K", "S")), "K")
ONE_MORE = ("S", (("S", ("K", "S")), "K"))


def unary(number):
    """The unary term of a number from 0 to 1000."""
    if not 0 <= number <= GREATEST:
        raise BadArgument("the number is out of its range")
    term = ZERO
    for _ in range(number):
        term = (ONE_MORE, term)
    return term


def unary_value(term, limit):
    """The number whose unary term behaves as the term does, or None if there is none."""
    run = Run(((term, "f"), "x"), limit)
    number = 0
    is_unary = True
    waiting = [run.whole]
    while waiting:
        head, arguments = run.head_form(waiting.pop())
        if head == "f" and len(arguments) == 1:
            number += 1
        elif head != "x" or arguments:
            is_unary = False
        # The argument next to the head stands last, and is run first.
        waiting.extend(arguments)
    if is_unary:
        return number
    return None


def sum_term():
    """The term that composes what its two arguments make of a term.

    It brings no argument into two places, so that sums of great numbers stay small.
    """
    return ("S", ("K", "S")), ("S", ("K", COMPOSING))


def product_term():
    """The term that composes its two arguments."""
    return COMPOSING


class Run:
    """The run of a term, part by part.

    A head that has no step keeps its place for good, and its arguments run
    one after another. So the whole term need not be looked through for each
    step. Pairs have their size as a third element, for the same reason.
    """

    def __init__(self, term, limit):
        self._limit = limit
        self._made = 0
        self._refuse_long()
        self.whole = _weighed(term)
        self._size = _size(self.whole)

    def head_form(self, term):
        """The head and its arguments, the next one last, when it has no more steps."""
        arguments = []
        while True:
            while isinstance(term, tuple):
                term, right, _ = term
                arguments.append(right)
            if term not in ARGUMENTS_NEEDED or len(arguments) < ARGUMENTS_NEEDED[term]:
                return term, arguments
            self._made += 1
            self._refuse_long()
            term = self._used(term, arguments)
            if self._size > LARGEST:
                raise TooLarge(LARGEST)

    def _used(self, letter, arguments):
        """Uses the rule of a letter on its arguments; returns what stands before the others."""
        first = arguments.pop()
        if letter == "I":
            self._size -= 1
        elif letter == "K":
            self._size -= 1 + _size(arguments.pop())
        else:
            second = arguments.pop()
            third = arguments.pop()
            arguments.append(_pair(second, third))
            arguments.append(third)
            self._size += _size(third) - 1
        return first

    def _refuse_long(self):
        """Raises TooLong if there are more steps than the limit."""
        if self._made > self._limit:
            raise TooLong(self._limit)


def _pair(left, right):
    """The pair of both with its size."""
    return left, right, _size(left) + _size(right)


def _size(term):
    """The number of letters of a weighed term."""
    if isinstance(term, tuple):
        return term[2]
    return 1


def _weighed(term):
    """The term whose pairs have their size."""
    made = []
    for part in all_parts(term):
        if isinstance(part, tuple):
            right = made.pop()
            made.append(_pair(made.pop(), right))
        else:
            made.append(part)
    return made[0]
