"""The lines of a program in words of the fixed machine. Names are told as the tuple of the names of the program."""

from anyletter.phrases import (
    AUGMENT, DIGIT, INQUIRE, LESSEN, MULTIPLY, OBTAIN, PORTION, PROCLAIM, below_nothing, deposited, flagged,
    just_nothing, put_cell, put_number, reckoned,
)


def name_cell(names, name):
    """The cell that has the integer of a name."""
    return 8 * names.index(name) + 1


def put_plain(names, plain):
    """First is what a plain tells; second stays."""
    return put_cell(name_cell(names, plain)) if isinstance(plain, str) else put_number(plain)


def put_place(names, plain):
    """First is the cell that has the integer of the place that a plain tells; second stays."""
    return put_plain(names, plain) + flagged([DIGIT])


def put_worth(names, worth):
    """First is what a worth tells that is not asked of the own row."""
    if worth[0] == "plain":
        return put_plain(names, worth[1])
    if worth[0] == "at":
        return put_place(names, worth[1]) + flagged([OBTAIN])
    one = put_plain(names, worth[1])
    other = put_plain(names, worth[2])
    if worth[0] == "+":
        return reckoned(one, AUGMENT, other)
    if worth[0] == "*":
        return reckoned(one, MULTIPLY, other)
    if worth[0] == "/":
        return reckoned(one, PORTION, other)
    difference = reckoned(one, LESSEN, other)
    if worth[0] == "<":
        return difference + below_nothing()
    return difference + just_nothing() if worth[0] == "=" else difference


def used(names, parts):
    """What a line with a worth does with it, which is in first."""
    if parts[0] == "say":
        return flagged([PROCLAIM])
    if parts[0] == "let":
        return deposited(put_number(name_cell(names, parts[1])))
    return deposited(put_place(names, parts[1]))


def worded(names, parts):
    """What a line does that hears, or has a worth that is not asked of the own row."""
    if parts[0] == "hear":
        return flagged([INQUIRE]) + deposited(put_number(name_cell(names, parts[1])))
    return put_worth(names, parts[-1]) + used(names, parts)
