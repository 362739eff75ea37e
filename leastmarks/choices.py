"""Rows of choices for runs."""

from leastmarks.errors import NoChoices
from leastmarks.values import is_index, is_row

MOST_CHOICES = 60
MOST_NEXTS = 4


def check_choices(choices):
    """Raises NoChoices for what is no row of choices."""
    if not is_row(choices) or len(choices) > MOST_CHOICES:
        raise NoChoices(-1)
    for at, choice in enumerate(choices):
        if not is_index(choice, MOST_NEXTS):
            raise NoChoices(at)
