"""Runs of many books made by rule, beside a second way to run them."""

import unittest

from tests.makers import BookMaker
from tests.reference import run_reference
from whatnext.books import all_places, why_no_book
from whatnext.runs import run


class ReferenceTest(unittest.TestCase):
    def test_runs_are_as_the_reference_has_them(self):
        ends = {"done": 0, "long": 0}
        put_by = 0
        for seed in range(1500):
            maker = BookMaker(seed)
            book = maker.book()
            self.assertIn(why_no_book(book), (None, "great"))
            f, numbers = maker.asking()
            for most in (0, 1, 2, 3, 7, 25):
                expected = run_reference(book, f, numbers, most)
                self.assertEqual(run(book, f, numbers, most), expected, (seed, most))
            ends[expected[1][0]] += 1
            put_by += expected[3] > 0
        # The comparison is worth something only where much is shown by it.
        self.assertGreater(ends["done"], 200)
        self.assertGreater(ends["long"], 200)
        self.assertGreater(put_by, 200)

    def test_places_of_many_books(self):
        for seed in range(300):
            book = BookMaker(seed).book()
            places = all_places(book)
            order = [errand[0] for errand in book]
            self.assertEqual(places, sorted(places, key=lambda place: (order.index(place[0]), place)))
            self.assertEqual(len(set(places)), len(places))


if __name__ == "__main__":
    unittest.main()
