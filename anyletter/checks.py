"""What any value is asked: whether it is an integer, a word, a sign, a text."""

MOST_LETTERS = 12
MOST_SIGNS = 200000


def is_list(value):
    """Whether it is a list or a tuple: they may stand for one another."""
    return isinstance(value, (list, tuple))


def is_integer(value):
    """Whether it is an integer: True and False are none."""
    return isinstance(value, int) and not isinstance(value, bool)


def is_within(value, least, most):
    """Whether it is an integer from least to most, None being no bound."""
    if not is_integer(value):
        return False
    return (least is None or value >= least) and (most is None or value <= most)


def are_integers(value):
    """Whether it is a list of integers, perhaps of none."""
    return is_list(value) and all([is_integer(number) for number in value])


def are_letters(text):
    """Whether a string has letters from a to z alone, and one at least."""
    return text.isascii() and text.isalpha() and text.islower()


def is_word(value):
    """Whether it is a string of 1 to 12 letters."""
    return isinstance(value, str) and len(value) <= MOST_LETTERS and are_letters(value)


def is_sign(value):
    """Whether it is a string that is one letter or one blank."""
    return isinstance(value, str) and len(value) == 1 and (value == " " or are_letters(value))


def is_text(value):
    """Whether it is a string of at most 200,000 letters and blanks."""
    if not isinstance(value, str) or len(value) > MOST_SIGNS:
        return False
    letters = value.replace(" ", "")
    return letters == "" or are_letters(letters)
