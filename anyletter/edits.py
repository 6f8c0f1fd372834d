"""Edits of a text, damages, and the items that they leave untouched."""

from anyletter.checks import MOST_SIGNS, is_list, is_sign, is_text, is_within
from anyletter.errors import BadEdits, BadText

MOST_EDITS = 12


def is_edit(value):
    """Whether it has the form of an edit, whatever text it may be done to."""
    if not is_list(value) or len(value) not in (2, 3):
        return False
    if not isinstance(value[0], str) or not is_within(value[1], 0, None):
        return False
    if value[0] == "lost":
        return len(value) == 2
    return value[0] in ("put", "changed") and len(value) == 3 and is_sign(value[2])


def left_by_edit(text, edit):
    """The text behind one edit; None if it is no edit that can be done to the text."""
    if not is_edit(edit):
        return None
    at = edit[1]
    if edit[0] == "put":
        if at > len(text) or len(text) >= MOST_SIGNS:
            return None
        return text[:at] + edit[2] + text[at:]
    if at >= len(text):
        return None
    if edit[0] == "lost":
        return text[:at] + text[at + 1:]
    if text[at] == edit[2]:
        return None
    return text[:at] + edit[2] + text[at + 1:]


def texts_behind(text, edits):
    """The list of the text and of what each edit leaves; None if edits is no damage of the text."""
    if not is_list(edits):
        return None
    texts = [text]
    for edit in edits:
        left = left_by_edit(texts[-1], edit)
        if left is None:
            return None
        texts.append(left)
    return texts


def checked_texts(text, edits):
    """The texts_behind of what is told as a text and as a damage of it of at most 12 edits."""
    if not is_text(text):
        raise BadText("text")
    if not is_list(edits) or len(edits) > MOST_EDITS:
        raise BadEdits("edits")
    texts = texts_behind(text, edits)
    if texts is None:
        raise BadEdits("edits")
    return texts


def damaged(text, edits):
    """The text that the damage leaves."""
    return checked_texts(text, edits)[-1]


def undone_edit(text, edit):
    """The edit that leads back to the text from what this edit leaves of it."""
    kind, at = edit[0], edit[1]
    if kind == "put":
        return ("lost", at)
    if kind == "lost":
        return ("put", at, text[at])
    return ("changed", at, text[at])


def undone(text, edits):
    """The damage that leads back to the text, the last edit undone first."""
    texts = checked_texts(text, edits)
    back = [undone_edit(ahead, edit) for ahead, edit in zip(texts, edits)]
    return tuple(back[::-1])


def owners_at_put_blank(text, at, owner):
    """The owners of the two items that stand for one into, or beside, which a blank is put."""
    # At an empty item the blank comes to stand behind it: so its end is asked first.
    if at == len(text) or text[at] == " ":
        return [owner, None]
    if at == 0 or text[at - 1] == " ":
        return [None, owner]
    return [None, None]


def owners_behind(owners, text, edit):
    """The owners of the items behind one edit: None stands for an item that is new or touched."""
    kind, at = edit[0], edit[1]
    number = text[:at].count(" ")
    if kind != "put" and text[at] == " ":
        # A blank is changed to a letter, as another sign must come: so either way its two items become one.
        return owners[:number] + [None] + owners[number + 2:]
    parts = [None]
    if kind == "put" and edit[2] == " ":
        parts = owners_at_put_blank(text, at, owners[number])
    elif kind == "changed" and edit[2] == " ":
        parts = [None, None]
    return owners[:number] + parts + owners[number + 1:]


def untouched(text, edits):
    """The numbers of the items of the text that no edit touches, an ascending tuple."""
    texts = checked_texts(text, edits)
    owners = list(range(text.count(" ") + 1))
    for ahead, edit in zip(texts, edits):
        owners = owners_behind(owners, ahead, edit)
    return tuple([owner for owner in owners if owner is not None])
