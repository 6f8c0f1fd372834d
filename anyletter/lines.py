"""Lines of source programs: names, plains, worths, and the parts of a line."""

from anyletter.checks import are_letters, is_list, is_within
from anyletter.errors import BadLine, BadProgram

MOST_NAME_LETTERS = 8
MOST_PLAIN = 4095
MOST_PLAIN_DIGITS = 4
NO_NAMES = ("hear", "say", "let", "keep", "while", "if", "else", "end", "stop", "at", "mine")
SIGNS = ("+", "-", "*", "/", "<", "=")
# What stands behind the word of a line, in order.
FORMS = {
    "hear": ("name",), "say": ("worth",), "let": ("name", "worth"), "keep": ("plain", "worth"), "while": ("plain",),
    "if": ("plain",), "else": (), "end": (), "stop": (),
}


def is_name(value):
    """Whether it is a string of 1 to 8 letters, and no word of the table."""
    if not isinstance(value, str) or len(value) > MOST_NAME_LETTERS:
        return False
    return are_letters(value) and value not in NO_NAMES


def is_digits(value):
    """Whether it is a string that is an integer from 0 to 4,095, written without leading zeros."""
    if not isinstance(value, str) or not 1 <= len(value) <= MOST_PLAIN_DIGITS:
        return False
    if not value.isascii() or not value.isdigit():
        return False
    return int(value) <= MOST_PLAIN and (value == "0" or value[0] != "0")


def is_plain(value):
    """Whether it is a string that is a name, or an integer from 0 to 4,095."""
    return is_name(value) or is_digits(value)


def kinds_behind(kind, item):
    """The kinds that are wanted behind an item that comes where this kind is wanted; None if it cannot stand there."""
    if kind == "name":
        return () if is_name(item) else None
    if kind == "plain":
        return () if is_plain(item) else None
    if kind == "sign":
        return ("plain",) if item in SIGNS else None
    if item in ("at", "mine"):
        return ("plain",)
    return ("sign",) if is_plain(item) else None


def fault_in(items):
    """The first item of a line that cannot stand, the number of items if one lacks; None for a line of the table."""
    if items[0] not in FORMS:
        return 0
    wanted = list(FORMS[items[0]])
    for place in range(1, len(items)):
        if not wanted:
            return place
        behind = kinds_behind(wanted[0], items[place])
        if behind is None:
            return place
        wanted = list(behind) + wanted[1:]
    # A sign is never needed: one plain is a worth, too.
    return None if wanted in ([], ["sign"]) else len(items)


def plain_of(item):
    """A name as a string, an integer as an integer."""
    return int(item) if is_digits(item) else item


def worth_of(items):
    """The tuple of a worth."""
    if len(items) == 1:
        return ("plain", plain_of(items[0]))
    if len(items) == 2:
        return (items[0], plain_of(items[1]))
    return (items[1], plain_of(items[0]), plain_of(items[2]))


def parts_of_items(items):
    """The parts of a line of the table, a tuple."""
    parts = [items[0]]
    for place, kind in enumerate(FORMS[items[0]]):
        if kind == "worth":
            parts.append(worth_of(items[place + 1:]))
        else:
            parts.append(plain_of(items[place + 1]))
    return tuple(parts)


def parts_of(line):
    """The parts of a line that stands by itself, a tuple."""
    if not isinstance(line, str):
        raise BadLine(0, 0)
    items = line.split(" ")
    fault = fault_in(items)
    if fault is not None:
        raise BadLine(0, fault)
    return parts_of_items(items)


def is_plain_part(value):
    """Whether it is what parts have for a plain."""
    return is_name(value) or is_within(value, 0, MOST_PLAIN)


def is_worth_part(value):
    """Whether it is what parts have for a worth."""
    if not is_list(value) or len(value) not in (2, 3) or not isinstance(value[0], str):
        return False
    words = ("plain", "at", "mine") if len(value) == 2 else SIGNS
    return value[0] in words and all([is_plain_part(part) for part in value[1:]])


def is_part(kind, value):
    """Whether it is what parts have for something of this kind."""
    if kind == "name":
        return is_name(value)
    return is_worth_part(value) if kind == "worth" else is_plain_part(value)


def are_parts(value):
    """Whether it is the list of the parts of a line."""
    if not is_list(value) or len(value) == 0 or not isinstance(value[0], str) or value[0] not in FORMS:
        return False
    kinds = FORMS[value[0]]
    return len(value) == len(kinds) + 1 and all([is_part(kind, part) for kind, part in zip(kinds, value[1:])])


def items_of_worth(worth):
    """The items that tell a worth."""
    if worth[0] == "plain":
        return [str(worth[1])]
    if len(worth) == 2:
        return [worth[0], str(worth[1])]
    return [str(worth[1]), worth[0], str(worth[2])]


def line_of(parts):
    """The line with these parts."""
    if not are_parts(parts):
        raise BadProgram("parts")
    items = [parts[0]]
    for kind, part in zip(FORMS[parts[0]], parts[1:]):
        items.extend(items_of_worth(part) if kind == "worth" else [str(part)])
    return " ".join(items)
