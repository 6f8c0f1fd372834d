"""Source programs: lines that stand behind one another, with their names and folds."""

from anyletter.checks import is_list, is_within
from anyletter.errors import BadLine, BadNumber, BadProgram
from anyletter.lines import fault_in, is_name, parts_of_items

MOST_LINES = 60
MOST_FOLDS = 6
MOST_NAMES = 20
MOST_MINES = 3


class Reading:
    """What is known of a program while its lines are read."""

    def __init__(self):
        self.line_parts = []
        self.names = []
        self.mines = 0
        self.partners = []
        # For each open fold the numbers of its lines so far: that of the while, of the if, or of the if and its else.
        self.folds = []


def can_stand(reading, word):
    """Whether a line with this word can stand behind the lines that are read, as to the folds."""
    if word in ("while", "if"):
        return len(reading.folds) < MOST_FOLDS
    if word not in ("else", "end"):
        return True
    if not reading.folds:
        return False
    fold = reading.folds[-1]
    return word == "end" or (len(fold) == 1 and reading.line_parts[fold[0]][0] == "if")


def fault_behind(reading, items):
    """The first item of a line that cannot stand behind the lines that are read; None if there is none."""
    fault = fault_in(items)
    if fault != 0 and not can_stand(reading, items[0]):
        return 0
    names = list(reading.names)
    # What stands ahead of a fault of the form may be one name or one mine too many, which then comes first.
    for place, item in enumerate(items[:fault]):
        if item == "mine" and reading.mines == MOST_MINES:
            return place
        if is_name(item) and item not in names:
            if len(names) == MOST_NAMES:
                return place
            names.append(item)
    return fault


def join_partners(partners, fold):
    """Notes the partners of the lines of a fold, its end being the last one."""
    for ahead, behind in zip(fold, fold[1:]):
        partners[ahead] = behind
    partners[fold[-1]] = fold[0]


def read_line(reading, items):
    """Takes up the items of a line that can stand."""
    line = len(reading.line_parts)
    reading.line_parts.append(parts_of_items(items))
    reading.partners.append(None)
    for item in items:
        if is_name(item) and item not in reading.names:
            reading.names.append(item)
    reading.mines = reading.mines + items.count("mine")
    if items[0] in ("while", "if"):
        reading.folds.append([line])
    elif items[0] == "else":
        reading.folds[-1].append(line)
    elif items[0] == "end":
        fold = reading.folds.pop()
        join_partners(reading.partners, fold + [line])


def reading_of(lines):
    """The Reading of all lines; raises what is wrong with them."""
    reading = Reading()
    for line, text in enumerate(lines):
        items = text.split(" ")
        fault = fault_behind(reading, items)
        if fault is not None:
            raise BadLine(line, fault)
        read_line(reading, items)
    if reading.folds:
        raise BadLine(len(lines), 0)
    return reading


class Program:
    """A program of at most 60 lines."""

    def __init__(self, lines):
        if not is_list(lines) or len(lines) > MOST_LINES or not all([isinstance(line, str) for line in lines]):
            raise BadProgram("lines")
        reading = reading_of(lines)
        self.lines = tuple(lines)
        self.names = tuple(reading.names)
        self.mines = reading.mines
        self.partners = tuple(reading.partners)
        self.line_parts = tuple(reading.line_parts)

    def __eq__(self, other):
        return isinstance(other, Program) and self.lines == other.lines

    def parts_at(self, line):
        """The parts of one of the lines."""
        if not is_within(line, 0, len(self.lines) - 1):
            raise BadNumber("line")
        return self.line_parts[line]
