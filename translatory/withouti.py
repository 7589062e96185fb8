"""Combinator machines without the letter I."""

from translatory.combinators import Combinators, all_parts, next_letter, put
from translatory.errors import NotFitting

REPLACEMENT = (("S", "K"), "K")


class WithoutI:
    """A translation into the machine of the letters S and K."""

    def __init__(self, machine):
        if not isinstance(machine, Combinators) or len(machine.letters) == 3:
            raise NotFitting("no combinator machine that lacks a letter")
        self.source = machine
        self.target = Combinators("SK")

    def picture(self, configuration):
        """The term with SKK in each place of I."""
        return put("I", REPLACEMENT, configuration)

    def read_back(self, configuration):
        """The term with I in each place of SKK, if there is an I in the source."""
        if "I" not in self.source.letters:
            return configuration
        made = []
        for part in all_parts(configuration):
            if isinstance(part, tuple):
                right = made.pop()
                made.append(_paired(made.pop(), right))
            else:
                made.append(part)
        return made[0]

    def cost(self, configuration):
        """SKK uses the rule of S and then that of K where I uses its own."""
        if next_letter(configuration) == "I":
            return 2
        return 1

    def last_steps(self, configuration):
        """SKK alone has no step, as I alone has none."""
        return 0


def _paired(left, right):
    """The pair of both, or I for S applied to K and K."""
    if right == "K" and isinstance(left, tuple) and left[0] == "S" and left[1] == "K":
        return "I"
    return left, right
