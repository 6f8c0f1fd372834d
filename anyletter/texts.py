"""The items of a text, which stand between its blanks."""

from anyletter.checks import is_text
from anyletter.errors import BadText


def items_of(text):
    """The tuple of the items of the text, the empty ones too."""
    if not is_text(text):
        raise BadText("text")
    return tuple(text.split(" "))


def begins_of(text):
    """The tuple of the places at which the items of the text begin."""
    begins = []
    place = 0
    for item in items_of(text):
        begins.append(place)
        place += len(item) + 1
    return tuple(begins)
