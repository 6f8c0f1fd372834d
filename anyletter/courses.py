"""Courses: rows made ready for many passes, each of which meets the words of the rooms it comes to and no others."""

from anyletter.deeds import FIRST_HERE, do_row

OUTSET = 0
UPLIFT = 1
ADVANCE = 2


def behind_words(row):
    """The pairs (block, whether the tick is up) behind each word of a row from the first stand, finish left out."""
    block = -1
    tick = False
    pairs = []
    for number in row:
        if number == OUTSET:
            block = -1
        elif number == UPLIFT:
            tick = True
        elif number == ADVANCE and tick:
            block += 1
            tick = False
        pairs.append((block, tick))
    return pairs


def thinned(row):
    """The row with one word in the place of several like ones side by side: each done twice is the word done once."""
    return [number for at, number in enumerate(row) if at == 0 or row[at - 1] != number]


def stretches_of(row):
    """The triples (block, tick, words) of a row: words side by side that want the same room, and what stands then."""
    stretches = []
    for number, (block, tick) in zip(row, behind_words(row)):
        if number < FIRST_HERE:
            continue
        if stretches and stretches[-1][0] == block and stretches[-1][1] == tick:
            stretches[-1][2].append(number)
        else:
            stretches.append((block, tick, [number]))
    return stretches


class Course:
    """A row, and its stretches, with the block and the tick behind all of it."""

    def __init__(self, row):
        self.row = thinned(row)
        # Behind these two words block and tick are the same in each pass, whatever they were ahead of it.
        self.is_steady = self.row[:2] == [OUTSET, UPLIFT]
        self.stretches = stretches_of(self.row) if self.is_steady else []
        self.last_pair = behind_words(self.row)[-1] if self.is_steady else (-1, False)


def do_pass(work, course):
    """Does a pass: all words of the row, in order, each once."""
    if not course.is_steady:
        do_row(work, course.row)
        return
    for block, tick, words in course.stretches:
        # All words of other stretches want a room that is not the one.
        if block == work.room:
            work.block = block
            work.tick = tick
            do_row(work, words)
            if work.is_done:
                return
    work.block, work.tick = course.last_pair
