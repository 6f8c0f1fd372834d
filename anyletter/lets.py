"""Machines by which damaged rows come to the end of the sound ones, whatever the price of the book."""

from anyletter.books import spelled
from anyletter.checks import is_within
from anyletter.copies import MOST_TEXT_EDITS
from anyletter.errors import BadMachine, BadNumber, Misfit
from anyletter.machines import Machine, end_of_row
from anyletter.papers import Denial, Paper
from anyletter.prices import cost_of_words
from anyletter.settled import times_to_settle

LETTERS = "abcdefghijklmnopqrstuvwxyz"
# Stands for whatever is written of an item with which no word begins.
STRAY = "-"


class Lets(Paper):
    """All damaged rows come to the end of the sound ones."""

    def __init__(self):
        super().__init__("lets")


class Differs(Denial):
    """A row, a start and a damage behind which the end is not that of the row."""

    def __init__(self, row, start, edits):
        super().__init__("differs", row, start, edits)
        self.row, self.start, self.edits = self.parts


def signs_to_try(words):
    """For each beginning of a word, and for STRAY, the signs to put or change to behind it.

    All letters with which no word goes on do the same, so one stands for all of them: if it stands there already, it
    does so without an edit.
    """
    beginnings = {word[:end]: True for word in words for end in range(len(word) + 1)}
    tried = {STRAY: [" ", "a"]}
    for beginning in beginnings:
        going_on = [letter for letter in LETTERS if beginning + letter in beginnings]
        others = [letter for letter in LETTERS if beginning + letter not in beginnings]
        tried[beginning] = [" "] + going_on + others[:1]
    return tried


class Search:
    """All that a machine may come to by the text of a row behind at most so many edits, sign by sign.

    A point of the search is (edits made, item, ends): what is written of the last item, and for each start where the
    words ahead of it lead from there. A layer has the points at one place of the text, and for each of them the step
    (what is done, sign, point ahead) by which it was reached first.
    """

    def __init__(self, machine, many):
        self.deeds = machine.deeds
        self.starts = tuple(range(machine.states))
        self.many = many
        self.tried = signs_to_try(machine.book.words)
        self.numbers = {word: number for number, word in enumerate(machine.book.words)}

    def ends_behind(self, item, ends):
        """Where the starts come to behind an item."""
        if item not in self.numbers:
            return ends
        deed = self.deeds[self.numbers[item]]
        return tuple([deed[state] for state in ends])

    def point_behind(self, point, sign, cost):
        """The point behind one sign more, which costs so many edits."""
        made, item, ends = point
        if sign == " ":
            return (made + cost, "", self.ends_behind(item, ends))
        longer = item + sign
        return (made + cost, longer if longer in self.tried else STRAY, ends)

    def with_puts(self, layer):
        """The layer, and what signs that are put lead to."""
        found = {known: layer[known] for known in layer}
        for made in range(self.many):
            reached = [known for known in found if known[0] == made]
            for point in reached:
                for sign in self.tried[point[1]]:
                    found.setdefault(self.point_behind(point, sign, 1), ("put", sign, point))
        return found

    def next_layer(self, layer, sign):
        """What the next sign of the text leads to, kept, lost or changed."""
        found = {}
        for point in layer:
            found.setdefault(self.point_behind(point, sign, 0), ("kept", sign, point))
            if point[0] < self.many:
                found.setdefault((point[0] + 1, point[1], point[2]), ("lost", sign, point))
                for other in self.tried[point[1]]:
                    if other != sign:
                        found.setdefault(self.point_behind(point, other, 1), ("changed", other, point))
        return found

    def layers_of(self, text):
        """The layers of all places of the text, the last one at its end."""
        layers = [self.with_puts({(0, "", self.starts): None})]
        for sign in text:
            layers.append(self.with_puts(self.next_layer(layers[-1], sign)))
        return layers

    def other_end(self, text, wanted):
        """(start, edits) by which the text comes to an end that is not wanted; None if it never does."""
        layers = self.layers_of(text)
        for point in layers[-1]:
            ends = self.ends_behind(point[1], point[2])
            for start in self.starts:
                if ends[start] != wanted[start]:
                    return (start, edits_of(steps_to(layers, point)))
        return None


def steps_to(layers, point):
    """The pairs (what is done, sign) that lead to a point of the last layer, in order."""
    steps = []
    place = len(layers) - 1
    while layers[place][point] is not None:
        kind, sign, ahead = layers[place][point]
        steps.append((kind, sign))
        if kind != "put":
            place -= 1
        point = ahead
    return steps[::-1]


def edits_of(steps):
    """The edits that are made by these steps from the left to the right."""
    edits = []
    at = 0
    for kind, sign in steps:
        if kind == "lost":
            edits.append(("lost", at))
        else:
            if kind != "kept":
                edits.append((kind, at, sign))
            at += 1
    return edits


def check_machine(machine, many):
    """Raises what is wrong with a machine and edits of which it is asked whether all ends are the same."""
    if not isinstance(machine, Machine):
        raise BadMachine("machine")
    if not is_within(many, 1, MOST_TEXT_EDITS):
        raise BadNumber("many")
    if not all([times_to_settle(deed) == 1 for deed in machine.deeds]):
        raise Misfit("deeds")


def rows_to_try(words):
    """All rows of one of so many words, and of two: twice being once, what holds for them holds for all rows."""
    ones = [(number,) for number in range(words)]
    return ones + [(number, other) for number in range(words) for other in range(words)]


def judged_machine(machine, many):
    """Lets() if all damaged rows come to the end of the sound ones, otherwise a Differs."""
    check_machine(machine, many)
    cost = cost_of_words(machine.book.words)
    if cost is None or cost > many:
        return Lets()
    search = Search(machine, many)
    for row in rows_to_try(len(machine.book.words)):
        wanted = [end_of_row(machine.deeds, row, start) for start in search.starts]
        found = search.other_end(spelled(machine.book, row, 2 * many + 1), wanted)
        if found is not None:
            return Differs(row, found[0], found[1])
    return Lets()
