"""Books that grow word by word, their price never below a bound."""

from anyletter.books import MOST_WORDS, Book, are_words
from anyletter.checks import is_within
from anyletter.errors import BadBook, BadNumber, TooMany
from anyletter.prices import MOST_MAKING_EDITS, begin_costs, end_costs, inner_cost, joined_cost

MOST_OFFERED = 60
# More than any ends or beginnings cost: the twelve letters of a word are put for fewer.
NEVER = 24


class Target:
    """A word, and the least that its beginnings and ends cost, made of any of the other words so far.

    Each new word changes these least costs alone: so not all pairs of words are gone through again.
    """

    def __init__(self, word, ends, begins):
        self.word = word
        self.ends = ends
        self.begins = begins


def lesser(row, other):
    """The lesser one of the numbers at each place of two rows."""
    return [min(one, two) for one, two in zip(row, other)]


def target_beside(target, word):
    """The target with one word more, of which it may be made."""
    ends = lesser(target.ends, end_costs(word, target.word))
    return Target(target.word, ends, lesser(target.begins, begin_costs(word, target.word)))


def target_of(word, others):
    """The target of a word among these others."""
    never = [NEVER] * (len(word) + 1)
    target = Target(word, never, never)
    for other in others:
        target = target_beside(target, other)
    return target


def costs_less(target, words, least):
    """Whether the target is made of others for fewer edits than least, only these words standing alone."""
    if joined_cost(target.ends, target.begins) < least:
        return True
    for word in words:
        if inner_cost(word, target.word) < least:
            return True
    return False


def targets_with(targets, word, least):
    """The targets of one word more; None if the price would be below least."""
    words = [target.word for target in targets]
    added = target_of(word, words)
    if costs_less(added, words, least):
        return None
    found = []
    for target in targets:
        beside = target_beside(target, word)
        # Without the new word the target was asked before.
        if costs_less(beside, [word], least):
            return None
        found.append(beside)
    return found + [added]


def grown(words, least):
    """The Book of those words, taken in their order, with which the price is least or more, or none."""
    if not are_words(words, MOST_OFFERED):
        raise BadBook("words")
    if not is_within(least, 1, MOST_MAKING_EDITS):
        raise BadNumber("least")
    targets = []
    for word in words:
        found = targets_with(targets, word, least)
        if found is not None:
            if len(found) > MOST_WORDS:
                raise TooMany("words", MOST_WORDS)
            targets = found
    return Book([target.word for target in targets])
