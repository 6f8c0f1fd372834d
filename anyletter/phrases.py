"""Phrases: words of the fixed machine, by their numbers, which side by side do one thing.

A phrase that puts something into first leaves second as it is, where it is told so.
"""

PREPARE = 3
AUGMENT = 4
LESSEN = 5
MULTIPLY = 6
PORTION = 7
EXCHANGE = 8
INQUIRE = 9
PROCLAIM = 10
OBTAIN = 11
# The words for the digits 0 to 7 stand behind one another.
DIGIT = 12
NOTHING = 20
DUPLICATE = 21
DEPOSIT = 22
WHETHER = 23
NEGATIVE = 24
GRANTED = 25
OTHERWISE = 26
ANYWAY = 27
JOURNEY = 28
FINISH = 29


def flagged(numbers):
    """Words that want the flag, each with a prepare ahead."""
    words = []
    for number in numbers:
        words.extend([PREPARE, number])
    return words


def octal_digits(number, least):
    """The digits of a number from 0 on, to the base 8, so many at least, the highest one first."""
    digits = []
    while number > 0 or len(digits) < least:
        digits.append(number % 8)
        number = number // 8
    return digits[::-1]


def put_digits(digits):
    """First goes on by these digits; second stays."""
    return flagged([DIGIT + digit for digit in digits])


def put_number(number, least=0):
    """First is the number, told by so many digits at least; second stays."""
    return [NOTHING] + put_digits(octal_digits(number, least))


def put_cell(cell):
    """First is the number in the cell; second stays."""
    return put_number(cell) + flagged([OBTAIN])


def reckoned(words, sign, others):
    """First is what the words put there, then the sign, then what the others put there; second is the latter."""
    return others + [DUPLICATE] + words + flagged([sign])


def deposited(address):
    """The number in the cell that the address puts into first is what was in first, which stays there."""
    return [DUPLICATE] + address + flagged([EXCHANGE]) + [DEPOSIT]


def left_over(words, divisor):
    """First is what is left of that which the words put there if it is divided by a number above 0."""
    # Behind the division second is the divisor still.
    return reckoned(words, PORTION, put_number(divisor)) + flagged([MULTIPLY]) + [DUPLICATE] + words + flagged([LESSEN])


def below_nothing():
    """First is 1 if it is below 0, otherwise 0."""
    # d over d d is -1 if d is below 0, otherwise 1 or 0; of these e only -1 has an e e - e that is not 0.
    sign_of = [DUPLICATE] + flagged([MULTIPLY, EXCHANGE, PORTION])
    return sign_of + [DUPLICATE] + flagged([MULTIPLY, LESSEN]) + [DUPLICATE] + flagged([PORTION])


def just_nothing():
    """First is 1 if it is 0, otherwise 0."""
    return [DUPLICATE] + flagged([PORTION]) + [DUPLICATE] + put_number(1) + flagged([LESSEN])


def gone_to(room, mode):
    """The room is the one with this number, as the mode tells."""
    return put_number(room) + [mode, JOURNEY]
