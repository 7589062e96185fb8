"""Machines, terms and small translations that several tests use."""

from translatory.strings import Strings


class Countdown:
    """A machine whose configurations are integers; it counts down to 0."""

    def __init__(self, name="plain"):
        self.name = name

    def __eq__(self, other):
        return isinstance(other, Countdown) and self.name == other.name

    def step(self, configuration):
        return configuration - 1 if configuration > 0 else None


class Endless:
    """A machine whose runs never end."""

    def step(self, configuration):
        return configuration + 1


class Stretched:
    """Counts down `factor` for 1, and at the end `tail` more."""

    def __init__(self, source, target, factor=1, tail=0):
        self.source = Countdown(source)
        self.target = Countdown(target)
        self.factor = factor
        self.tail = tail

    def picture(self, configuration):
        return configuration * self.factor + self.tail

    def read_back(self, configuration):
        return max(0, configuration - self.tail) // self.factor

    def cost(self, configuration):
        return self.factor

    def last_steps(self, configuration):
        return self.tail


class Triangle:
    """Counts down n for the step from n, and at the end `tail` more."""

    def __init__(self, source, target, tail=0):
        self.source = Countdown(source)
        self.target = Countdown(target)
        self.tail = tail

    def picture(self, configuration):
        return configuration * (configuration + 1) // 2 + self.tail

    def read_back(self, configuration):
        number = 0
        while self.picture(number + 1) <= configuration:
            number += 1
        return number

    def cost(self, configuration):
        return configuration

    def last_steps(self, configuration):
        return self.tail


class IntoWords:
    """A countdown as a string system that takes symbols away."""

    def __init__(self, source):
        self.source = Countdown(source)
        self.target = Strings([((1,), ())])

    def picture(self, configuration):
        return (1,) * configuration

    def read_back(self, configuration):
        return len(configuration)

    def cost(self, configuration):
        return 1

    def last_steps(self, configuration):
        return 0


class OutOfWords:
    """The string system of `IntoWords` as a countdown."""

    def __init__(self, target):
        self.source = Strings([((1,), ())])
        self.target = Countdown(target)

    def picture(self, configuration):
        return len(configuration)

    def read_back(self, configuration):
        return (1,) * configuration

    def cost(self, configuration):
        return 1

    def last_steps(self, configuration):
        return 0


def left_deep(head, argument, count):
    """The head applied to one argument after another, `count` of them."""
    term = head
    for _ in range(count):
        term = (term, argument)
    return term


def right_deep(letter, end, count):
    """The letter applied to the letter applied to .. the end, `count` times."""
    term = end
    for _ in range(count):
        term = (letter, term)
    return term
