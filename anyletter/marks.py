"""Marks, which show where a damage was done."""

from anyletter.edits import damaged

SIGNS_OF_LINE = 60


class Marking:
    """What is known of the signs of a text while edits are done to it."""

    def __init__(self, length):
        # For each sign whether it is new.
        self.news = [False] * length
        # For each sign whether a gap stands ahead of it, and for the end of the text whether one stands there.
        self.gaps = [False] * (length + 1)


def mark_edit(marking, edit):
    """Takes up one edit."""
    kind, at = edit[0], edit[1]
    if kind == "put":
        marking.news.insert(at, True)
        # A gap that was at this place stays ahead of the sign that stood here, or at the end.
        marking.gaps.insert(at, False)
    elif kind == "changed":
        marking.news[at] = True
    else:
        marking.news.pop(at)
        marking.gaps.pop(at)
        marking.gaps[at] = True


def mark_of(is_new, has_gap):
    """The mark of a sign."""
    if has_gap:
        return "#" if is_new else "_"
    return "^" if is_new else " "


def marks_of(text, edits):
    """The lines to show of a damage: a line of the text behind it, and its line of marks, one behind the other."""
    left = damaged(text, edits)
    marking = Marking(len(text))
    for edit in edits:
        mark_edit(marking, edit)
    marks = "".join([mark_of(is_new, has_gap) for is_new, has_gap in zip(marking.news, marking.gaps)])
    lines = []
    for begin in range(0, max(len(left), 1), SIGNS_OF_LINE):
        lines.extend([left[begin:begin + SIGNS_OF_LINE], marks[begin:begin + SIGNS_OF_LINE]])
    if marking.gaps[-1]:
        lines[-1] = lines[-1] + "_"
    return tuple(lines)
