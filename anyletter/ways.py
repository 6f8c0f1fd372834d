"""Ways from a text to another one, and the least of them."""

from anyletter.checks import is_text, is_within
from anyletter.errors import BadNumber, BadText, TooMany
from anyletter.papers import Paper

MOST_WAY_SIGNS = 300
MOST_UNLIKE_SIGNS = 4
MOST_AROUND_EDITS = 2
MOST_AROUND_SIGNS = 12


class Ways(Paper):
    """The edits of a least way."""

    def __init__(self, edits):
        super().__init__("ways", edits)
        self.edits = self.parts[0]


def check_pair(one, other):
    """Raises what is wrong with two texts between which a way is asked for."""
    if not is_text(one):
        raise BadText("one")
    if not is_text(other):
        raise BadText("other")
    if max(len(one), len(other)) > MOST_WAY_SIGNS:
        raise TooMany("signs", MOST_WAY_SIGNS)


def next_numbers(above, first, sign, wanted):
    """The row of least_numbers behind one sign more, its first number being told."""
    row = [first]
    for column, letter in enumerate(wanted):
        if letter == sign:
            # Where both end alike no way has fewer edits than one that leaves this sign.
            row.append(above[column])
        else:
            row.append(1 + min(above[column], above[column + 1], row[column]))
    return row


def least_numbers(one, other):
    """Row i, column j: how many edits a least way has from the first i signs of one to the first j signs of other."""
    rows = [list(range(len(other) + 1))]
    for sign in one:
        rows.append(next_numbers(rows[-1], len(rows), sign, other))
    return rows


def edits_between(one, other):
    """How many edits a least way from one text to the other one has."""
    check_pair(one, other)
    return least_numbers(one, other)[-1][-1]


def least_edits(one, other):
    """The Ways of a least way from one text to the other one."""
    check_pair(one, other)
    rows = least_numbers(one, other)
    edits = []
    # The way goes from the right to the left, so that no edit moves the places of those that come behind it.
    at, column = len(one), len(other)
    while at > 0 or column > 0:
        if at > 0 and column > 0 and one[at - 1] == other[column - 1]:
            at -= 1
            column -= 1
        elif at > 0 and column > 0 and rows[at][column] == rows[at - 1][column - 1] + 1:
            at -= 1
            column -= 1
            edits.append(("changed", at, other[column]))
        elif at > 0 and rows[at][column] == rows[at - 1][column] + 1:
            at -= 1
            edits.append(("lost", at))
        else:
            column -= 1
            edits.append(("put", at, other[column]))
    return Ways(edits)


def texts_beside(text, signs):
    """The texts that one edit makes of the text, which puts, and changes to, these signs alone."""
    found = []
    for at in range(len(text) + 1):
        ahead, behind = text[:at], text[at:]
        found.extend([ahead + sign + behind for sign in signs])
        if behind != "":
            found.append(ahead + behind[1:])
            found.extend([ahead + sign + behind[1:] for sign in signs if sign != behind[0]])
    return found


def is_signs(value):
    """Whether it is a string of 1 to 4 unlike signs."""
    return is_text(value) and 1 <= len(value) <= MOST_UNLIKE_SIGNS and len(set(value)) == len(value)


def around(text, signs, many):
    """All texts to which at most many edits lead that put, and change to, these signs alone, an ascending tuple."""
    if not is_text(text):
        raise BadText("text")
    if not is_signs(signs):
        raise BadText("signs")
    if not is_within(many, 0, MOST_AROUND_EDITS):
        raise BadNumber("many")
    if len(text) > MOST_AROUND_SIGNS:
        raise TooMany("signs", MOST_AROUND_SIGNS)
    found = {text: True}
    newest = [text]
    for _ in range(many):
        reached = []
        for known in newest:
            for beside in texts_beside(known, signs):
                if beside not in found:
                    found[beside] = True
                    reached.append(beside)
        newest = reached
    return tuple(sorted(found))
