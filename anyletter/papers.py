"""Papers, which tell an answer and what shows it."""


def fixed(value):
    """The value with tuples in the place of lists, all the way in."""
    if isinstance(value, (list, tuple)):
        return tuple([fixed(part) for part in value])
    return value


def are_alike(paper, other):
    """Whether other is a paper of the very class of this paper, with equal word and parts."""
    if not isinstance(other, Paper):
        return False
    # No class of papers has the name of another one, and isinstance alone would take those below for it.
    if paper.__class__.__name__ != other.__class__.__name__:
        return False
    return (paper.word, paper.parts) == (other.word, other.parts)


class Paper:
    """A paper that is true."""

    def __init__(self, word, *parts):
        self.word = fixed(word)
        self.parts = fixed(parts)

    def __eq__(self, other):
        return are_alike(self, other)

    def __bool__(self):
        return True


class Denial(Paper):
    """A paper that says no, and is false."""

    def __init__(self, word, *parts):
        super().__init__(word, *parts)

    def __eq__(self, other):
        return are_alike(self, other)

    def __bool__(self):
        return False
