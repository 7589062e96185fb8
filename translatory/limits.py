"""The limit of pictures that grow with the values in a configuration."""

from translatory.errors import TooLarge

LARGEST_SUM = 100000


def refuse_large(total):
    """Raises TooLarge if the sum of the values in a configuration is beyond the limit."""
    if total > LARGEST_SUM:
        raise TooLarge(LARGEST_SUM)
