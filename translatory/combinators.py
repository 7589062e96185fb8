"""Terms of combinators, and the machines that run them.

Terms may be thousands of pairs deep, so nothing here calls itself, and terms
are never compared, hashed or shown by Python's own means.
"""

from translatory.errors import InvalidMachine, InvalidText, TooLarge

LARGEST = 20000
ARGUMENTS_NEEDED = {"S": 3, "K": 2, "I": 1}


class Combinators:
    """A combinator machine; its configurations are terms of its letters."""

    def __init__(self, letters):
        if not letters:
            raise InvalidMachine("there is no letter")
        for letter in letters:
            if letter not in ARGUMENTS_NEEDED or letters.count(letter) > 1:
                raise InvalidMachine("a letter is wrong or stands twice")
        self.letters = "".join([letter for letter in ARGUMENTS_NEEDED if letter in letters])

    def __eq__(self, other):
        return isinstance(other, Combinators) and self.letters == other.letters

    def step(self, term):
        """The next term, or None in a normal form."""
        following = next_term(term)
        if following is not None and size(following) > LARGEST:
            raise TooLarge(LARGEST)
        return following


def next_term(term):
    """The term after a step, of whatever size, or None in a normal form."""
    seen = _looked_through(term)
    head, arguments, above, place = seen[-1]
    if not _is_enough(head, arguments):
        return None
    return _put_back(_used(head, arguments), seen, above, place)


def next_letter(term):
    """The letter whose rule the next step uses; the term has a step."""
    head, _, _, _ = _looked_through(term)[-1]
    return head


def size(term):
    """The number of letters in a term."""
    pairs = 0
    waiting = [term]
    while waiting:
        part = waiting.pop()
        while isinstance(part, tuple):
            part, right = part
            pairs += 1
            if isinstance(right, tuple):
                waiting.append(right)
    return pairs + 1


def show_term(term):
    """The text of a term."""
    signs = []
    waiting = [term]
    while waiting:
        # A bracket that waits is a string of one character, as a letter is.
        head, arguments = _unwound(waiting.pop())
        signs.append(head)
        for argument in arguments:
            if isinstance(argument, tuple):
                waiting.extend([")", argument, "("])
            else:
                waiting.append(argument)
    return "".join(signs)


def parse_term(text):
    """The term of a text."""
    term = None
    before_brackets = []
    for sign in text:
        if sign == "(":
            before_brackets.append(term)
            term = None
        elif sign == ")":
            if not before_brackets or term is None:
                raise InvalidText(1)
            term = _applied(before_brackets.pop(), term)
        elif sign in ARGUMENTS_NEEDED or _is_variable(sign):
            term = _applied(term, sign)
        elif sign != " ":
            raise InvalidText(1)
    if before_brackets or term is None:
        raise InvalidText(1)
    return term


def abstraction(variable, term):
    """The term that takes the variable out of a term."""
    # None stands for K applied to a part in which the variable does not stand.
    made = []
    for part in all_parts(term):
        if not isinstance(part, tuple):
            made.append("I" if part == variable else None)
            continue
        right = made.pop()
        left = made.pop()
        if left is None and right is None:
            made.append(None)
        else:
            made.append((("S", _or_constant(left, part[0])), _or_constant(right, part[1])))
    result = _or_constant(made[0], term)
    if size(result) > LARGEST:
        raise TooLarge(LARGEST)
    return result


def put(variable, argument, term):
    """The term with the argument in each place of the variable."""
    parts = all_parts(term)
    places = parts.count(variable)
    # The size is known before the term is made, which could be too much to make.
    if size(term) + places * (size(argument) - 1) > LARGEST:
        raise TooLarge(LARGEST)
    made = []
    for part in parts:
        if isinstance(part, tuple):
            right = made.pop()
            made.append((made.pop(), right))
        else:
            made.append(argument if part == variable else part)
    return made[0]


def variables(term):
    """The ascending list of the variables in a term."""
    letters = [part for part in all_parts(term) if not isinstance(part, tuple)]
    return sorted({letter for letter in letters if _is_variable(letter)})


def all_parts(term):
    """All parts of a term in a list, each pair behind its left and its right part."""
    parts = []
    waiting = [term]
    while waiting:
        part = waiting.pop()
        parts.append(part)
        if isinstance(part, tuple):
            waiting.extend(part)
    parts.reverse()
    return parts


def _unwound(term):
    """The head of a term and the list of its arguments, the one next to the head last."""
    arguments = []
    while isinstance(term, tuple):
        term, right = term
        arguments.append(right)
    return term, arguments


def _looked_through(term):
    """The parts that are looked at for a step; if one has it, it is the last one.

    Each is a tuple of its head, its arguments, and the number of the part and
    the index of the argument in which it stands.
    """
    seen = []
    waiting = [(term, None, None)]
    while waiting:
        part, above, place = waiting.pop()
        head, arguments = _unwound(part)
        if _is_enough(head, arguments):
            waiting.clear()
        else:
            for at, argument in enumerate(arguments):
                if isinstance(argument, tuple):
                    waiting.append((argument, len(seen), at))
        seen.append((head, arguments, above, place))
    return seen


def _wound(term, arguments):
    """The term applied to arguments, of which the last one in the list comes first."""
    for argument in reversed(arguments):
        term = (term, argument)
    return term


def _is_enough(head, arguments):
    """True if the head has a rule and all the arguments that it needs."""
    return head in ARGUMENTS_NEEDED and len(arguments) >= ARGUMENTS_NEEDED[head]


def _used(head, arguments):
    """The term after the use of the rule of the head on its first arguments."""
    first = arguments[-1]
    if head == "I":
        return _wound(first, arguments[:-1])
    if head == "K":
        return _wound(first, arguments[:-2])
    second = arguments[-2]
    third = arguments[-3]
    return _wound(((first, third), (second, third)), arguments[:-3])


def _put_back(term, seen, above, place):
    """The whole term, with `term` at its place in the part with the number `above`."""
    while above is not None:
        head, arguments, further, further_place = seen[above]
        term = _wound(head, arguments[:place] + [term] + arguments[place + 1:])
        above = further
        place = further_place
    return term


def _applied(left, right):
    """`left` applied to `right`, where nothing may stand to the left."""
    if left is None:
        return right
    return left, right


def _or_constant(made, part):
    """What was made of a part, or K applied to the part."""
    if made is None:
        return "K", part
    return made


def _is_variable(letter):
    return "a" <= letter <= "z"
