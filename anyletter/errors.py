"""The errors of the package. Each keeps its fields as they were passed."""


class LetterError(ValueError):
    """The base of all errors of the package."""


class BadNumber(LetterError):
    """What is told as an integer, or as a list of integers, is none that may stand there."""

    def __init__(self, part):
        self.part = part


class BadText(LetterError):
    """What is told as a text is none."""

    def __init__(self, part):
        self.part = part


class BadWord(LetterError):
    """What is told as a word of a book is none."""

    def __init__(self, part):
        self.part = part


class BadBook(LetterError):
    """What is told as a book, or as the words of one, is none."""

    def __init__(self, part):
        self.part = part


class BadRow(LetterError):
    """What is told as a row is none."""

    def __init__(self, part):
        self.part = part


class BadEdits(LetterError):
    """What is told as a damage of a text is none."""

    def __init__(self, part):
        self.part = part


class BadMachine(LetterError):
    """What is told as a machine, or as a part of one, is none."""

    def __init__(self, part):
        self.part = part


class BadHeard(LetterError):
    """What is told as the numbers that are heard is no list of integers."""

    def __init__(self, part):
        self.part = part


class BadProgram(LetterError):
    """What is told as a program, or as a part of one, is none."""

    def __init__(self, part):
        self.part = part


class BadPaper(LetterError):
    """What is told as a paper is none."""

    def __init__(self, part):
        self.part = part


class Misfit(LetterError):
    """Arguments that are each right do not fit together."""

    def __init__(self, part):
        self.part = part


class TooMany(LetterError):
    """There are more than most."""

    def __init__(self, what, most):
        self.what = what
        self.most = most


class BadLine(LetterError):
    """Lines fail at this item of this line."""

    def __init__(self, line, item):
        self.line = line
        self.item = item
