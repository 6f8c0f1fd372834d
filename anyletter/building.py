"""The rooms of a program, those of the look-up of its own row among them."""

from anyletter.courses import ADVANCE, UPLIFT
from anyletter.lookups import answered, asked, cleared, look_up, tell_word
from anyletter.phrases import ANYWAY, FINISH, GRANTED, WHETHER, gone_to
from anyletter.wording import put_plain, used, worded

# A room is told by the pair of the line with which it begins, and of where in this line it does.
WITH_LINE = 1
LOOK_UP = 2
TELL_WORD = 3
BEHIND_ASKING = 4
# The room in which the list of numbers is made, ahead of all lines.
AHEAD = (0, 0)


def lines_that_ask(program):
    """The numbers of the lines that have a worth with mine."""
    found = []
    for line, parts in enumerate(program.line_parts):
        if parts[0] in ("say", "let", "keep") and parts[-1][0] == "mine":
            found.append(line)
    return found


def room_numbers(program):
    """For each room, told by its pair, its number: they stand in the order of the lines."""
    pairs = [(0, WITH_LINE)]
    for line, parts in enumerate(program.line_parts):
        if parts[0] == "while":
            pairs.append((line, WITH_LINE))
        if parts[0] in ("while", "if", "else"):
            pairs.append((program.partners[line] + 1, WITH_LINE))
    asking = lines_that_ask(program)
    pairs.extend([(line, BEHIND_ASKING) for line in asking])
    if asking:
        # Where one line asks alone the run comes behind it in the same pass.
        pairs.extend([AHEAD, (asking[-1], LOOK_UP), (asking[-1], TELL_WORD)])
    return {pair: number for number, pair in enumerate(sorted(set(pairs)))}


class Building:
    """The rooms of a program while they are written, line by line."""

    def __init__(self, program, size):
        self.program = program
        self.size = size
        self.numbers = room_numbers(program)
        self.rooms = []
        # Whether the words that were written last lead to another room, or are done last of all.
        self.is_left = False


def write(building, words, is_left):
    """Puts words behind those of the newest room."""
    building.rooms[-1].extend(words)
    building.is_left = is_left


def enter(building, pair):
    """Begins a room; the one ahead leads to it if it does not lead elsewhere."""
    if building.rooms and not building.is_left:
        write(building, gone_to(building.numbers[pair], ANYWAY), True)
    building.rooms.append([])
    building.is_left = False


def write_asking(building, line):
    """Writes a line that has a worth with mine."""
    numbers = building.numbers
    names = building.program.names
    parts = building.program.line_parts[line]
    asking = lines_that_ask(building.program)
    look, tell = numbers[(asking[-1], LOOK_UP)], numbers[(asking[-1], TELL_WORD)]
    write(building, asked(put_plain(names, parts[-1][1]), look, numbers[(line, BEHIND_ASKING)]), True)
    if line == asking[-1]:
        enter(building, (line, LOOK_UP))
        write(building, look_up(building.size, tell), True)
        enter(building, (line, TELL_WORD))
        write(building, tell_word(), True)
    enter(building, (line, BEHIND_ASKING))
    write(building, answered() + used(names, parts), False)


def write_line(building, line):
    """Writes the words of a line."""
    program = building.program
    parts = program.line_parts[line]
    partner = program.partners[line]
    if parts[0] in ("while", "if"):
        behind = building.numbers[(partner + 1, WITH_LINE)]
        write(building, put_plain(program.names, parts[1]) + [WHETHER] + gone_to(behind, GRANTED), False)
    elif parts[0] == "else":
        write(building, gone_to(building.numbers[(partner + 1, WITH_LINE)], ANYWAY), True)
    elif parts[0] == "end":
        if program.line_parts[partner][0] == "while":
            write(building, gone_to(building.numbers[(partner, WITH_LINE)], ANYWAY), True)
    elif parts[0] == "stop":
        write(building, [FINISH], True)
    elif line in lines_that_ask(program):
        write_asking(building, line)
    else:
        write(building, worded(program.names, parts), False)


def built_rooms(program, size):
    """The rooms of a program, a list of lists of words; the glue has so many words if the program asks for its row."""
    building = Building(program, size)
    if AHEAD in building.numbers:
        enter(building, AHEAD)
        write(building, cleared(), False)
    for line in range(len(program.lines)):
        if (line, WITH_LINE) in building.numbers:
            enter(building, (line, WITH_LINE))
        write_line(building, line)
    if (len(program.lines), WITH_LINE) in building.numbers:
        enter(building, (len(program.lines), WITH_LINE))
    if not building.is_left:
        write(building, [FINISH], True)
    return building.rooms


def joined_rooms(rooms):
    """The words of a row with these rooms, its outset and what begins the first one left out."""
    words = list(rooms[0])
    for room in rooms[1:]:
        words.extend([UPLIFT, ADVANCE] + list(room))
    return words
