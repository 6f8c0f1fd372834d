"""Films: what each pass of a run leads to."""

from anyletter.books import read
from anyletter.checks import is_text
from anyletter.courses import Course, do_pass
from anyletter.deeds import Work
from anyletter.errors import BadText
from anyletter.plain import plain_book
from anyletter.runs import check_run


def film_of(text, heard, passes):
    """For each pass that is done of a text: (room, first, second, what was said in it), a tuple of tuples."""
    if not is_text(text):
        raise BadText("text")
    check_run(heard, passes)
    work = Work(tuple(heard))
    course = Course(read(plain_book(), text))
    pictures = []
    while len(pictures) < passes and not work.is_done:
        ahead = len(work.said)
        do_pass(work, course)
        pictures.append((work.room, work.first, work.second, tuple(work.said[ahead:])))
    return tuple(pictures)
