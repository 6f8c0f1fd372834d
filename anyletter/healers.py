"""Programs that ask for their own rows, and texts that say what they should be."""

from anyletter.books import spelled
from anyletter.checks import is_text, is_within
from anyletter.errors import BadNumber, BadText, Misfit
from anyletter.plain import is_plain_row, plain_book
from anyletter.programs import Program
from anyletter.rows_of import MOST_MANY
from anyletter.runs import run_text


def asker():
    """The Program that says for each number that is heard the word there in its own row, until one is below 0."""
    return Program((
        "while 1",
        "hear n",
        "let b n < 0",
        "if b",
        "stop",
        "end",
        "say mine n",
        "end",
    ))


def healer():
    """The Program that says its own row, word by word."""
    return Program((
        "while 1",
        "let w mine n",
        "let b w + 1",
        "if b",
        "say w",
        "let n n + 1",
        "else",
        "stop",
        "end",
        "end",
    ))


def healed(text, many, passes):
    """What the text says in a run of at most so many passes, as a row spelled for many edits."""
    if not is_text(text):
        raise BadText("text")
    if not is_within(many, 0, MOST_MANY):
        raise BadNumber("many")
    run = run_text(text, (), passes)
    if run.outcome == "late" or not is_plain_row(run.said):
        raise Misfit("text")
    return spelled(plain_book(), run.said, 2 * many + 1)
