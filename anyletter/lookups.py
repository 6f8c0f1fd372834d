"""Looking up words of the own row: the list of numbers from which each of them is told, and the rooms that do this.

An own row has a first piece of 12 words, the glue, which has 24 words for each number of the list, and a last piece.
The list has, by its indices: from 0 on the words of the first piece, four by four; from 3 on what the words in a number
are parted by; from 7 on the words of the glue around digits that are 0, four by four; from 13 on what the digits of a
number are parted by, for each word of the glue; from 37 on the words of the last piece, four by four. So a number of
the list is told by its index; and a word of a piece, or one around the digits, by four times an index, and 0 to 3 more.
"""

from anyletter.courses import ADVANCE, OUTSET, UPLIFT
from anyletter.phrases import (
    ANYWAY, AUGMENT, DEPOSIT, DIGIT, DUPLICATE, EXCHANGE, GRANTED, JOURNEY, LESSEN, NEGATIVE, NOTHING, OBTAIN,
    OTHERWISE, PORTION, deposited, flagged, gone_to, left_over, put_cell, put_digits, put_number, reckoned,
)

FIRST_WORDS = 12
NUMBER_WORDS = 24
# Where these begin among the numbers of the list.
WORD_DIVISORS = 3
FRAME = 7
DIGIT_DIVISORS = 13
LAST_PIECE = 37
# So many digits tell how many words the glue has, however many these are: so the last piece is always as long.
SIZE_DIGITS = 5
# Cells that are free: what is asked, where the run goes on behind the answer, and what comes on the way.
PLACE_CELL = 2
BACK_CELL = 4
DIGIT_CELL = 5
INDEX_CELL = 6
NUMBER_CELL = 7


def first_piece():
    """The words that begin an own row: the cell 0 has 8, and second is the cell for the first number of the list."""
    return [OUTSET, UPLIFT, ADVANCE] + put_digits([1, 0]) + [DEPOSIT] + put_number(3) + [DUPLICATE]


def framed(number):
    """The words of the glue for a number: it comes into the cell second, and second is more by the 8 of the cell 0."""
    return put_number(number, 8) + [DEPOSIT] + put_cell(0) + flagged([AUGMENT]) + [DUPLICATE]


def cleared():
    """The cell 0, which is one of the list of the program, has 0 as at first."""
    return [NOTHING, DUPLICATE, DEPOSIT]


def four_by_four(words):
    """The numbers that words make, four by four; each counts one more, so that 0 tells that there is none."""
    numbers = []
    for at in range(0, len(words), 4):
        number = 0
        for place in range(at, at + 4):
            number = 64 * number + (words[place] + 1 if place < len(words) else 0)
        numbers.append(number)
    return numbers


def digit_divisors():
    """For each word that is framed what the number is divided by so that the digit there is the last one."""
    # What is divided by 0 is 0: so the words that are no digits stay what they are around digits that are 0.
    divisors = [0] * NUMBER_WORDS
    weight = 1
    for place in range(16, 0, -2):
        divisors[place] = weight
        weight = 8 * weight
    return divisors


def listed(last_piece):
    """The numbers of the list, in order."""
    numbers = four_by_four(first_piece()) + [64 * 64 * 64, 64 * 64, 64, 1] + four_by_four(framed(0))
    return numbers + digit_divisors() + four_by_four(last_piece)


def glue_size(last_words):
    """How many words the glue has if the last piece has so many."""
    return NUMBER_WORDS * (LAST_PIECE + (last_words + 3) // 4)


def put_listed(words):
    """First is the number of the list whose index the words put there."""
    return words + flagged([DIGIT + 3, OBTAIN])


def added(words, number):
    """First is a number more than what the words put there; so is second."""
    return words + [DUPLICATE] + put_number(number) + flagged([AUGMENT]) + [DUPLICATE]


def asked(place_words, room, back):
    """Asks the room that looks up for the word at the place that the words put there; the answer comes to room back."""
    words = put_number(BACK_CELL) + [DUPLICATE] + put_number(back) + [DEPOSIT]
    return words + place_words + [DUPLICATE] + gone_to(room, ANYWAY)


def answered():
    """What begins the room that was told to go on in: first is the word, -1 if there is none."""
    return flagged([EXCHANGE])


def look_up(size, room):
    """The room that finds out where the word is told at the place that is in second; size is that of the glue."""
    place = put_cell(PLACE_CELL)
    words = put_number(FIRST_WORDS) + flagged([EXCHANGE, LESSEN]) + deposited(put_number(PLACE_CELL))
    words += put_number(DIGIT_CELL) + [DUPLICATE, NOTHING, DEPOSIT]
    # Ahead of the glue it is one of the first piece; below 0 no number of the list is met, so that it is none.
    words += place + [NEGATIVE] + added([], FIRST_WORDS) + gone_to(room, GRANTED)
    # Behind the glue it is one of the last piece, or behind all numbers of the list, so that it is none, too.
    words += reckoned(place, LESSEN, put_number(size, SIZE_DIGITS)) + [NEGATIVE]
    words += added([], 4 * LAST_PIECE) + gone_to(room, OTHERWISE)
    return words + look_up_in_glue(room)


def look_up_in_glue(room):
    """What follows in this room for a word of the glue: its digit, if it is one, and where the frame tells the word."""
    place, index, number = put_cell(PLACE_CELL), put_cell(INDEX_CELL), put_cell(NUMBER_CELL)
    words = left_over(place, NUMBER_WORDS) + deposited(put_number(INDEX_CELL))
    words += put_listed(reckoned(place, PORTION, put_number(NUMBER_WORDS))) + deposited(put_number(NUMBER_CELL))
    words += reckoned(number, PORTION, put_listed(added(index, DIGIT_DIVISORS))) + deposited(put_number(NUMBER_CELL))
    words += left_over(number, 8) + deposited(put_number(DIGIT_CELL))
    return words + added(index, 4 * FRAME) + gone_to(room, ANYWAY)


def tell_word():
    """The room that puts into second the word that second tells, more by the digit if it is one, and goes back."""
    index, number = put_cell(INDEX_CELL), put_cell(NUMBER_CELL)
    words = put_number(INDEX_CELL) + flagged([EXCHANGE]) + [DEPOSIT]
    words += put_listed(reckoned(index, PORTION, put_number(4))) + deposited(put_number(NUMBER_CELL))
    divisor = put_listed(added(left_over(index, 4), WORD_DIVISORS))
    words += reckoned(number, PORTION, divisor) + deposited(put_number(NUMBER_CELL))
    words += left_over(number, 64) + [DUPLICATE] + put_cell(DIGIT_CELL) + flagged([AUGMENT])
    words += [DUPLICATE] + put_number(1) + flagged([EXCHANGE, LESSEN]) + [DUPLICATE]
    return words + put_cell(BACK_CELL) + [ANYWAY, JOURNEY]
