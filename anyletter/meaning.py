"""What source programs do: their runs, line by line."""

from anyletter.books import MOST_NUMBERS
from anyletter.checks import are_integers, is_within
from anyletter.errors import BadHeard, BadNumber, BadProgram, BadRow
from anyletter.papers import Paper
from anyletter.programs import Program

MOST_STEPS = 20000


class Played(Paper):
    """Whether a run was done, what was said, and how many steps were done."""

    def __init__(self, outcome, said, steps):
        super().__init__("played", outcome, said, steps)
        self.outcome, self.said, self.steps = self.parts


class Play:
    """A run of a program while its lines are done."""

    def __init__(self, program, numbers, own):
        self.program = program
        self.numbers = numbers
        self.own = own
        self.line = 0
        self.heard = 0
        self.worths = {}
        self.places = {}
        self.said = []
        self.traces = []


def plain_in(play, plain):
    """The integer that a plain tells."""
    return play.worths.get(plain, 0) if isinstance(plain, str) else plain


def joined(sign, one, other):
    """What two integers with a sign between tell."""
    if sign == "+":
        return one + other
    if sign == "-":
        return one - other
    if sign == "*":
        return one * other
    if sign == "/":
        return 0 if other == 0 else one // other
    return int(one < other if sign == "<" else one == other)


def worth_in(play, worth):
    """The integer that a worth tells."""
    plain = plain_in(play, worth[1])
    if worth[0] == "plain":
        return plain
    if worth[0] == "at":
        return play.places.get(plain, 0)
    if worth[0] == "mine":
        return play.own[plain] if 0 <= plain < len(play.own) else -1
    return joined(worth[0], plain, plain_in(play, worth[2]))


def next_heard(play):
    """The next integer that is heard; 0 if none is left."""
    if play.heard == len(play.numbers):
        return 0
    play.heard = play.heard + 1
    return play.numbers[play.heard - 1]


def do_step(play):
    """Does the line to which the run has come."""
    parts = play.program.line_parts[play.line]
    partner = play.program.partners[play.line]
    play.traces.append(play.line)
    play.line = play.line + 1
    if parts[0] == "hear":
        play.worths[parts[1]] = next_heard(play)
    elif parts[0] == "say":
        play.said.append(worth_in(play, parts[1]))
    elif parts[0] == "let":
        play.worths[parts[1]] = worth_in(play, parts[2])
    elif parts[0] == "keep":
        play.places[plain_in(play, parts[1])] = worth_in(play, parts[2])
    elif parts[0] == "stop":
        play.line = len(play.program.lines)
    elif plain_in(play, parts[1]) == 0:
        # A while or an if: the partner is its else or its end.
        play.line = partner + 1


def go_on(play):
    """Goes to the next line that is a step, or behind the last line: what else and end do takes none."""
    lines = play.program.line_parts
    while play.line < len(lines) and lines[play.line][0] in ("else", "end"):
        partner = play.program.partners[play.line]
        if lines[play.line][0] == "else":
            play.line = partner + 1
        elif lines[partner][0] == "while":
            play.line = partner
        else:
            play.line = play.line + 1


def is_over(play):
    """Whether the run is done."""
    return play.line == len(play.program.lines)


def play_of(program, heard, steps, own):
    """The Play of the run of a program until it is done, or one more step would be too many."""
    if not isinstance(program, Program):
        raise BadProgram("program")
    if not are_integers(heard):
        raise BadHeard("heard")
    if not is_within(steps, 0, MOST_STEPS):
        raise BadNumber("steps")
    if not are_integers(own) or len(own) > MOST_NUMBERS:
        raise BadRow("own")
    play = Play(program, tuple(heard), tuple(own))
    while not is_over(play) and len(play.traces) < steps:
        do_step(play)
        go_on(play)
    return play


def played(program, heard, steps, own=()):
    """The Played of the run of a program with these integers heard, of at most so many steps."""
    play = play_of(program, heard, steps, own)
    return Played("done" if is_over(play) else "short", play.said, len(play.traces))


def traced(program, heard, steps, own=()):
    """The numbers of the lines of the steps of a run, in order, a tuple."""
    play = play_of(program, heard, steps, own)
    return tuple(play.traces)


def left_by(program, heard, steps, own=()):
    """The integers of the names behind a run, and the pairs (place, integer) of the list that are not 0."""
    play = play_of(program, heard, steps, own)
    integers = tuple([play.worths.get(name, 0) for name in program.names])
    pairs = sorted([(place, integer) for place, integer in play.places.items() if integer != 0])
    return (integers, tuple(pairs))
