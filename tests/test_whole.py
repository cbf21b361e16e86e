"""The document's point 3: all roads on which books and turned books run alike."""

import unittest

from tests.makers import BookMaker, TurnedMaker
from tests.terms import EVERY_SORT
from tests.turned_terms import BENT, EVERY_PART
from whatnext.anew import anew, are_alike, book_anew
from whatnext.back import back, bent_at, is_neat, named_book
from whatnext.carried import carried, not_carried_at
from whatnext.errors import TooGreat
from whatnext.laid import is_laid, laid
from whatnext.rounds import gone_on
from whatnext.runs import run
from whatnext.slim import idle_places, slim
from whatnext.stands import behind, is_stand
from whatnext.texts import read_book, show_book
from whatnext.turnedruns import run_turned
from whatnext.turning import turn_book
from whatnext.waits import most_waiting, shows_most, shows_ring

MOSTS = (1, 3, 40)


class WholeTest(unittest.TestCase):
    def books(self):
        """Books with an errand's name and numbers."""
        yield EVERY_SORT, "f", (4, 6)
        for seed in range(250):
            maker = BookMaker(seed, 16)
            yield maker.book(), *maker.asking()

    def turned_books(self):
        """Turned books likewise, bent ones too."""
        yield EVERY_PART, "f", (4, 6)
        yield BENT, "f", ()
        for seed in range(250):
            maker = TurnedMaker(seed, 16, is_straight=seed % 3 == 0)
            yield maker.book(), *maker.asking()

    def test_a_book_and_what_comes_of_it(self):
        for book, f, numbers in self.books():
            turned = turn_book(book)
            again, named = back(turned), named_book(book)
            self.assertIs(is_neat(turned), True)
            self.assertTrue(are_alike(turn_book(again), turned))
            self.assertEqual(book_anew(again), book_anew(named))
            for most in MOSTS:
                expected = run(book, f, numbers, most)
                self.assertEqual(run_turned(turned, f, numbers, most), expected)
                self.assertEqual(run_turned(anew(turned), f, numbers, most), expected)
                self.assertEqual(run(book_anew(book), f, numbers, most), expected)
                self.assertEqual(run(named, f, numbers, most), expected)
                self.assertEqual(run(named_book(named), f, numbers, most), expected)
            self.turned_roads(turned, f, numbers)

    def test_turned_books_and_what_comes_of_them(self):
        bent = 0
        for turned, f, numbers in self.turned_books():
            if bent_at(turned) is None:
                self.run_back(turned, f, numbers)
            else:
                bent += 1
            self.turned_roads(turned, f, numbers)
        self.assertGreater(bent, 80)

    def run_back(self, turned, f, numbers):
        for most in MOSTS:
            trail, end, deepest, made = run_turned(turned, f, numbers, most)
            other = run(back(turned), f, numbers, most)
            self.assertEqual(other[:3], (trail, end, deepest))
            self.assertLessEqual(other[3], made)

    def turned_roads(self, turned, f, numbers):
        """Slim, laid, slim and laid, turned back and turned; then carried, stands and papers."""
        put_out = slim(turned)
        self.runs_no_more(turned, put_out, f, numbers)
        self.assertEqual(idle_places(put_out), [])
        self.stands(turned, f, numbers)
        self.papers(turned, f, numbers)
        try:
            made = laid(turned)
        except TooGreat:
            return
        self.assertIs(is_laid(made), True)
        self.runs_as(turned, made, f, numbers)
        self.runs_no_more(turned, slim(made), f, numbers)
        self.runs_as(turned, turn_book(back(made)), f, numbers)
        self.runs_no_more(turned, turn_book(back(slim(made))), f, numbers)
        self.run_back(made, f, numbers)
        self.papers(made, f, numbers)
        self.carried_roads(made, f, numbers)

    def runs_as(self, turned, other, f, numbers):
        for most in MOSTS:
            self.assertEqual(run_turned(other, f, numbers, most)[:3], run_turned(turned, f, numbers, most)[:3])

    def runs_no_more(self, turned, other, f, numbers):
        for most in MOSTS:
            trail, end, deepest, made = run_turned(turned, f, numbers, most)
            got = run_turned(other, f, numbers, most)
            self.assertEqual(got[:2], (trail, end))
            self.assertLessEqual(got[2], deepest)
            self.assertLessEqual(got[3], made)

    def carried_roads(self, made, f, numbers):
        for g, names, body in made:
            if not_carried_at(made, g) is not None:
                continue
            got = carried(made, g)
            more = (*numbers, 0) if f == g else numbers
            for most in MOSTS:
                trail, end, deepest, many = run_turned(made, f, numbers, most)
                other = run_turned(got, f, more, most)
                self.assertEqual([(*one[:2], one[2][:-1]) if one[:2] == ("ask", g) else one for one in other[0]], trail)
                self.assertEqual(other[1], end)
            self.runs_no_more(got, slim(got), f, more)
            self.run_back(got, f, more)
            # Carried again, and laid again, it is the same but for one number more.
            self.assertTrue(are_alike(laid(got) if self.is_small(got) else got, got))
            self.assertIsNone(not_carried_at(carried(got, g), g))

    def is_small(self, turned):
        try:
            laid(turned)
        except TooGreat:
            return False
        return True

    def stands(self, turned, f, numbers):
        """Where a stand comes again the run never ends; where it is done, it does."""
        told = gone_on(turned, f, numbers, 60)
        end = run_turned(turned, f, numbers, 100)[1]
        if told[0] == "round":
            self.assertEqual(end, ("long",))
        if told[0] == "done":
            self.assertEqual(end, told[:1] + told[1:2])
        first = ("ask", f, numbers, ())
        self.assertIs(is_stand(turned, first), True)
        self.assertIs(is_stand(turned, behind(turned, first)[1]), True)

    def papers(self, turned, f, numbers):
        head, first, second = most_waiting(turned, f)
        self.assertIs(shows_most(turned, f, first, second) if head == "most" else shows_ring(turned, f, first, second), True)
        if head == "most":
            self.assertLessEqual(run_turned(turned, f, numbers, 40)[2], second[f])

    def test_books_are_read_as_they_are_written(self):
        for book, f, numbers in self.books():
            for one in (book, named_book(book)):
                try:
                    self.assertEqual(read_book(show_book(one)), one)
                except ValueError:
                    # Greater than a book may be.
                    self.assertGreater(len(show_book(one)), 100)


if __name__ == "__main__":
    unittest.main()
