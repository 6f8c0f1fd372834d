import random
import unittest

from anyletter.books import spelled
from anyletter.films import film_of
from anyletter.plain import plain_book
from anyletter.rows_of import text_of
from anyletter.runs import run_text
from anyletter.stands import begun, passed
from tests.support import NO_TEXTS, PLAIN, raised, slow_read
from tests.test_rows_of import SUMS
from tests.test_runs import NO_PASSES, TELLER, drawn_row
from tests.test_stands import NO_HEARD


def slow_film(text, heard, passes):
    stand, pictures = begun(), []
    while not stand.is_done and len(pictures) < passes:
        ahead = stand
        stand = passed(stand, slow_read(PLAIN, text), heard)
        pictures.append((stand.room, stand.first, stand.second, stand.said[len(ahead.said):]))
    return tuple(pictures)


class Films(unittest.TestCase):
    def test_drawn_texts(self):
        drawn = random.Random(2001)
        lengths = set()
        for _ in range(400):
            text = spelled(plain_book(), drawn_row(drawn, drawn.randint(0, 50)), drawn.randint(1, 3))
            heard = [drawn.randint(-3, 3) for _ in range(4)]
            passes = drawn.randint(1, 6)
            told = film_of(text, heard, passes)
            self.assertEqual(repr(told), repr(slow_film(text, heard, passes)))
            lengths.add((len(told) == passes, len(told) > 1))
        self.assertEqual(len(lengths), 4)

    def test_finished_and_late(self):
        text = spelled(plain_book(), TELLER, 1)
        self.assertEqual(film_of(text, (6, 2), 9), ((0, 1, 0, (6,)), (0, 1, 0, (2,)), (1, 1, 0, (0,))))
        self.assertEqual(film_of(text, (6, 2), 2), ((0, 1, 0, (6,)), (0, 1, 0, (2,))))
        self.assertEqual(film_of(passes=2, heard=[], text=""), ((0, 0, 0, ()), (0, 0, 0, ())))
        self.assertEqual(len(film_of("finish", (), 20000)), 20000)

    def test_together_it_is_the_run(self):
        text = text_of(SUMS, 1)
        film, run = film_of(text, [4], 90), run_text(text, [4], 90)
        self.assertEqual(len(film), run.passes)
        self.assertEqual(sum((picture[3] for picture in film), ()), run.said)

    def test_errors_in_their_order(self):
        for text in NO_TEXTS:
            self.assertEqual(raised(film_of, text, None, None), ("BadText", "text"))
        for heard in NO_HEARD:
            self.assertEqual(raised(film_of, "", heard, None), ("BadHeard", "heard"))
        for passes in NO_PASSES:
            self.assertEqual(raised(film_of, "", (), passes), ("BadNumber", "passes"))
