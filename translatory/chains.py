"""Chains of translations."""

from translatory.errors import NotFitting, TooLong
from translatory.running import after
from translatory.strings import Strings


class Chain:
    """Translations one after another, as one translation."""

    def __init__(self, translations, *, limit=100000):
        if not translations:
            raise NotFitting("a chain has at least one translation")
        for one, other in zip(translations, translations[1:]):
            if isinstance(one.target, Strings):
                raise NotFitting("only the last translation may lead into a string system")
            if one.target != other.source:
                raise NotFitting("a target is not the source of the next translation")
        self.source = translations[0].source
        self.target = translations[-1].target
        self._translations = tuple(translations)
        self._limit = limit

    def picture(self, configuration):
        """The picture that is made by all translations, one after the other."""
        for translation in self._translations:
            configuration = translation.picture(configuration)
        return configuration

    def read_back(self, configuration):
        """What is read back by all translations, the last one first."""
        for translation in reversed(self._translations):
            configuration = translation.read_back(configuration)
        return configuration

    def cost(self, configuration):
        """How many steps of the target stand for the step of the source."""
        return self._costs(0, configuration, 1)

    def last_steps(self, configuration):
        """How many steps the target still makes after the picture of a last configuration."""
        total = 0
        for index, translation in enumerate(self._translations[:-1]):
            steps = translation.last_steps(configuration)
            self._refuse_long(steps)
            configuration = translation.picture(configuration)
            if steps > 0:
                total += self._costs(index + 1, configuration, steps)
                configuration = after(translation.target, configuration, steps)
        return total + self._translations[-1].last_steps(configuration)

    def _costs(self, first, configuration, steps):
        """The sum of the costs, in the chain from the index `first` on, of one or more steps.

        The sums within sums wait in a list, as a chain may have too many
        translations for calls within calls.
        """
        total = 0
        waiting = [(first, configuration, steps, False)]
        while waiting:
            index, configuration, steps, is_paid = waiting.pop()
            translation = self._translations[index]
            if is_paid:
                configuration = translation.source.step(configuration)
            if steps > 1:
                waiting.append((index, configuration, steps - 1, True))
            cost = translation.cost(configuration)
            if index + 1 == len(self._translations):
                total += cost
            else:
                self._refuse_long(cost)
                waiting.append((index + 1, translation.picture(configuration), cost, False))
        return total

    def _refuse_long(self, parts):
        """Raises TooLong if a sum would have too many parts."""
        if parts > self._limit:
            raise TooLong(self._limit)
