"""Whether a paper tells a least way."""

from anyletter.checks import is_list
from anyletter.edits import texts_behind
from anyletter.ways import Ways, edits_between


def shows_ways(one, other, value):
    """Whether it is the Ways of a least way from one text to the other one."""
    least = edits_between(one, other)
    if not isinstance(value, Ways) or value.__class__.__name__ != "Ways":
        return False
    if not is_list(value.edits) or len(value.edits) != least:
        return False
    texts = texts_behind(one, value.edits)
    return texts is not None and texts[-1] == other
