"""What several tests use: values of the wrong kinds, and slow reckonings that follow the document word for word."""

import functools

from anyletter.errors import LetterError

NO_INTEGERS = [True, False, None, "1", "", 1.0, (1,), [], b"1", {}, object()]
NO_TEXTS = [None, 0, True, b"ab", ["a"], (), {}, "aB", "a-b", "ab\n", "a\tb", "\u00e9", "1", "a" * 200001, object()]
NO_LISTS = [None, 0, True, "ab", "", b"ab", {}, {"lost": 0}, object()]

# The thirty words of the plain book, whose price the document tells.
PLAIN = """outset uplift advance prepare augment lessen multiply portion exchange inquire proclaim obtain cipher single
couple tripled quarter fivefold hexagon weekday nothing duplicate deposit whether negative granted otherwise anyway
journey finish""".split()


def raised(call, *places, **names):
    """The class name of the error that a call raises, and behind it its fields; None if it raises none."""
    try:
        call(*places, **names)
    except LetterError as error:
        return (type(error).__name__, *vars(error).values())
    return None


def slow_left(text, edit):
    """The text behind an edit, sign by sign; None if it cannot be done."""
    signs = list(text)
    kind, at = edit[0], edit[1]
    if kind == "lost" and at in range(len(signs)):
        signs.pop(at)
    elif kind == "put" and at in range(len(signs) + 1) and len(signs) < 200000:
        signs.insert(at, edit[2])
    elif kind == "changed" and at in range(len(signs)) and signs[at] != edit[2]:
        signs[at] = edit[2]
    else:
        return None
    return "".join(signs)


def all_edits(text, signs):
    """All edits that can be done to the text with these signs."""
    found = [("lost", at) for at in range(len(text))]
    found += [("put", at, sign) for at in range(len(text) + 1) for sign in signs]
    return found + [("changed", at, sign) for at in range(len(text)) for sign in signs if text[at] != sign]


def all_texts(signs, most):
    """All texts of at most so many of these signs."""
    found = [""]
    for text in found:
        if len(text) < most:
            found += [text + sign for sign in signs]
    return found


@functools.lru_cache(maxsize=None)
def slow_distance(one, other):
    """The least number of edits between two texts: of the last signs one is lost, put, changed, or both stay."""
    if not one or not other:
        return len(one) + len(other)
    if one[-1] == other[-1]:
        return slow_distance(one[:-1], other[:-1])
    return 1 + min(
        slow_distance(one[:-1], other), slow_distance(one, other[:-1]), slow_distance(one[:-1], other[:-1])
    )


@functools.lru_cache(maxsize=None)
def slow_cost(first, last, made):
    """By how many edits the triple of these three words is made, as [7] tells it, all stretches gone through."""
    costs = []
    for firsts in range(1, 7):
        lasts = 0 if first == last else 6
        blank = len(" ".join([first] * firsts))
        text = " ".join([first] * firsts + [last] * lasts)
        for begin in range(len(text) + 1):
            for end in range(begin, len(text) + 1):
                if first != last and not begin <= blank < end:
                    continue
                cost = slow_distance(text[begin:end], made)
                cost += begin > 0 and text[begin - 1] != " "
                cost += end < len(text) and text[end] != " "
                costs.append(cost)
    return min(costs)


def slow_made_words(words, many):
    numbers = range(len(words))
    return tuple(
        (u, v, w)
        for u in numbers
        for v in numbers
        for w in numbers
        if w not in (u, v) and slow_cost(words[u], words[v], words[w]) <= many
    )


def slow_price(words):
    numbers = range(len(words))
    triples = [(u, v, w) for u in numbers for v in numbers for w in numbers if w not in (u, v)]
    return min((slow_cost(words[u], words[v], words[w]) for u, v, w in triples), default=None)


def slow_read(words, text):
    """The numbers that are read of a text."""
    return tuple(words.index(item) for item in text.split(" ") if item in words)


def slow_spelled(words, row, copies):
    """The text of a row, word by word; copies has a number for each word."""
    return " ".join(words[number] for number in row for _ in range(copies[number]))


def slow_thickly(row, other):
    """Whether the other row can be cut into pieces as [8] tells, all cuts gone through."""

    @functools.lru_cache(maxsize=None)
    def can_be_cut(pieces, begin):
        if pieces == len(row):
            return begin == len(other)
        for end in range(begin + 1, len(other) + 1):
            if other[end - 1] != row[pieces]:
                return False
            if can_be_cut(pieces + 1, end):
                return True
        return False

    return can_be_cut(0, 0)


def texts_left(text, signs, many):
    """For each text that at most so many edits with these signs leave, edits that leave it."""
    found = {text: ()}
    newest = [text]
    for _ in range(many):
        reached = []
        for known in newest:
            for edit in all_edits(known, signs):
                left = slow_left(known, edit)
                if left not in found:
                    found[left] = found[known] + (edit,)
                    reached.append(left)
        newest = reached
    return found
