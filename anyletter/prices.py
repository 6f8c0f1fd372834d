"""The price of a book: the least number of edits that make a word of others."""

from anyletter.books import Book, spelled
from anyletter.checks import is_within
from anyletter.errors import BadBook, BadNumber
from anyletter.papers import Denial, Paper
from anyletter.ways import edits_between, least_edits, next_numbers

MOST_MAKING_EDITS = 4


class Strange(Paper):
    """A row, edits as many as the price, and the word that they make of the row."""

    def __init__(self, row, edits, made):
        super().__init__("strange", row, edits, made)
        self.row, self.edits, self.made = self.parts


class Alone(Denial):
    """The book has one word, and so no price."""

    def __init__(self):
        super().__init__("alone")


def next_costs(costs, sign, made):
    """The costs behind one sign more: entry i is of the first i letters of the made word.

    A stretch may begin anew behind the sign: for nothing behind a blank, for one edit behind a letter.
    """
    return next_numbers(costs, 0 if sign == " " else 1, sign, made)


def end_costs(word, made):
    """Entry i: the least edits that make the first i letters of made of an end of copies of the word.

    If a letter stands just ahead of this end, that is one edit more.
    """
    # A longer end would cost more than to put all letters.
    copies = (2 * len(made) + 1) // (len(word) + 1) + 1
    costs = list(range(len(made) + 1))
    for sign in " ".join([word] * copies):
        costs = next_costs(costs, sign, made)
    return costs


def begin_costs(word, made):
    """Entry i: the least edits that make made without its first i letters of a beginning of copies of the word.

    If a letter stands just behind this beginning, that is one edit more.
    """
    return end_costs(word[::-1], made[::-1])[::-1]


def joined_cost(ends, begins):
    """The least edits that make a word of an end, a blank and a beginning."""
    lost = min([end + begin for end, begin in zip(ends, begins)])
    changed = min([end + begin for end, begin in zip(ends, begins[1:])])
    return 1 + min(lost, changed)


def inner_cost(word, made):
    """The least edits that make the word made of a stretch of one copy of the other word."""
    costs = list(range(len(made) + 1))
    least = costs[-1] + 1
    for place, sign in enumerate(word):
        costs = next_costs(costs, sign, made)
        behind = 0 if place == len(word) - 1 else 1
        least = min(least, costs[-1] + behind)
    return least


def ways_to_make(words, made, most):
    """(edits, first, last, made) for each triple of this made word that at most so many edits make."""
    others = [number for number in range(len(words)) if number != made]
    ends = {number: end_costs(words[number], words[made]) for number in others}
    begins = {number: begin_costs(words[number], words[made]) for number in others}
    found = []
    for first in others:
        for last in others:
            cost = joined_cost(ends[first], begins[last])
            if first == last:
                cost = min(cost, inner_cost(words[first], words[made]))
            if cost <= most:
                found.append((cost, first, last, made))
    return found


def cheapest(words):
    """(price, first, last, made) of a triple that is made by as few edits as any, for two words or more."""
    most = min([len(word) for word in words]) + 1
    best = None
    for made in range(len(words)):
        found = ways_to_make(words, made, most)
        if found != []:
            best = min(found)
            most = best[0] - 1
    return best


def cost_of_words(words):
    """The price of the book of these words, None for one word."""
    return None if len(words) == 1 else cheapest(words)[0]


def made_words(book, many):
    """All triples (u, v, w) that are made by many edits, an ascending tuple."""
    if not isinstance(book, Book):
        raise BadBook("book")
    if not is_within(many, 0, MOST_MAKING_EDITS):
        raise BadNumber("many")
    found = []
    for made in range(len(book.words)):
        found.extend([way[1:] for way in ways_to_make(book.words, made, many)])
    return tuple(sorted(found))


def price(book):
    """The least number of edits by which some triple is made; None for a book of one word."""
    if not isinstance(book, Book):
        raise BadBook("book")
    return cost_of_words(book.words)


def cost_of_stretch(text, begin, end, word):
    """The least number of edits that make the word of this stretch of the text, its ends cut off."""
    cost = edits_between(text[begin:end], word)
    if begin > 0 and text[begin - 1] != " ":
        cost += 1
    if end < len(text) and text[end] != " ":
        cost += 1
    return cost


def stretch_of_cost(text, word, cost):
    """(begin, end) of the first stretch of the text of which the word is made for so much."""
    for begin in range(len(text) + 1):
        # A stretch longer or shorter than the word by more than the cost needs more edits.
        shortest = max(begin, begin + len(word) - cost)
        longest = min(len(text), begin + len(word) + cost)
        for end in range(shortest, longest + 1):
            if cost_of_stretch(text, begin, end, word) == cost:
                return (begin, end)
    return None


def cut_and_made(text, begin, end, word):
    """The edits that make the word of this stretch, an item of its own."""
    edits = []
    if end < len(text) and text[end] != " ":
        edits.append(("put", end, " "))
    for edit in least_edits(text[begin:end], word).edits:
        edits.append((edit[0], edit[1] + begin) + edit[2:])
    if begin > 0 and text[begin - 1] != " ":
        edits.append(("put", begin, " "))
    return edits


def price_of(book):
    """Alone() for a book of one word, otherwise a Strange of as many edits as the price."""
    if not isinstance(book, Book):
        raise BadBook("book")
    if len(book.words) == 1:
        return Alone()
    cost, first, last, made = cheapest(book.words)
    word = book.words[made]
    # So many copies hold every stretch that is long enough, wherever in a copy it begins or ends.
    row = [first] * ((len(word) + cost) // (len(book.words[first]) + 1) + 2)
    if first != last:
        row = row + [last] * ((len(word) + cost) // (len(book.words[last]) + 1) + 2)
    text = spelled(book, row, 1)
    begin, end = stretch_of_cost(text, word, cost)
    return Strange(row, cut_and_made(text, begin, end, word), made)
