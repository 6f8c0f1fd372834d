"""The deeds of the thirty words of the fixed machine."""

# The words from prepare on are done only if the block is the room.
FIRST_HERE = 3
# The words from augment to weekday want the flag, and take it down.
FIRST_OF_FLAG = 4
LAST_OF_FLAG = 19
FIRST_DIGIT = 12
LAST_DIGIT = 19
FIRST_MODE = 25
LAST_MODE = 27
MODE_IF_SO = 0
MODE_ANYWAY = 2


class Work:
    """A stand while words are done: it changes, and has all numbers that can be heard."""

    def __init__(self, numbers):
        self.numbers = numbers
        self.block = -1
        self.room = 0
        self.tick = False
        self.flag = False
        self.test = False
        self.mode = MODE_ANYWAY
        self.first = 0
        self.second = 0
        self.cells = {}
        self.heard = 0
        self.said = []
        self.is_done = False


def outset(work):
    """The block is -1."""
    work.block = -1


def uplift(work):
    """The tick is up."""
    work.tick = True


def advance(work):
    """If the tick is up the block is one more, and the tick is down."""
    if work.tick:
        work.block = work.block + 1
        work.tick = False


def prepare(work):
    """The flag is up."""
    work.flag = True


def augment(work):
    """First is first plus second."""
    work.first = work.first + work.second


def lessen(work):
    """First is first less second."""
    work.first = work.first - work.second


def multiply(work):
    """First is first times second."""
    work.first = work.first * work.second


def portion(work):
    """First is first divided by second, rounded down; 0 if second is 0."""
    work.first = 0 if work.second == 0 else work.first // work.second


def exchange(work):
    """First and second change places."""
    work.first, work.second = work.second, work.first


def inquire(work):
    """First is the next number that is heard; 0 if none is left, which is not counted."""
    if work.heard < len(work.numbers):
        work.first = work.numbers[work.heard]
        work.heard = work.heard + 1
    else:
        work.first = 0


def proclaim(work):
    """First is said."""
    work.said.append(work.first)


def obtain(work):
    """First is the number in the cell first."""
    work.first = work.cells.get(work.first, 0)


def nothing(work):
    """First is 0."""
    work.first = 0


def duplicate(work):
    """Second is first."""
    work.second = work.first


def deposit(work):
    """The number in the cell second is first."""
    if work.first != 0:
        work.cells[work.second] = work.first
    elif work.second in work.cells:
        del work.cells[work.second]


def whether(work):
    """The test is whether first is 0."""
    work.test = work.first == 0


def negative(work):
    """The test is whether first is below 0."""
    work.test = work.first < 0


def journey(work):
    """The room is first: with mode 0 only if the test is so, with mode 1 only if it is not."""
    if work.mode == MODE_ANYWAY or work.test == (work.mode == MODE_IF_SO):
        work.room = work.first


def finish(work):
    """The run is done."""
    work.is_done = True


# All words but those for digits and modes.
DEEDS = {
    0: outset, 1: uplift, 2: advance, 3: prepare, 4: augment, 5: lessen, 6: multiply, 7: portion, 8: exchange,
    9: inquire, 10: proclaim, 11: obtain, 20: nothing, 21: duplicate, 22: deposit, 23: whether, 24: negative,
    28: journey, 29: finish,
}


def may_do(work, number):
    """Whether the word does its deed now; a flag that it wants is taken down then."""
    if work.is_done:
        return False
    if number >= FIRST_HERE and work.block != work.room:
        return False
    if FIRST_OF_FLAG <= number <= LAST_OF_FLAG:
        was_up = work.flag
        work.flag = False
        return was_up
    return True


def do_word(work, number):
    """Does the word with this number."""
    if not may_do(work, number):
        return
    if FIRST_DIGIT <= number <= LAST_DIGIT:
        work.first = 8 * work.first + number - FIRST_DIGIT
    elif FIRST_MODE <= number <= LAST_MODE:
        work.mode = number - FIRST_MODE
    else:
        deed = DEEDS[number]
        deed(work)


def do_row(work, row):
    """Does the words of a row, in order, each once."""
    for number in row:
        do_word(work, number)
