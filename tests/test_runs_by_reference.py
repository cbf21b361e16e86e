"""Runs of many books made by rule, beside a second way to run them."""

import random
import unittest

from tests.reference import run_reference
from tests.terms import ask, less, let, name, num, plus, tell, when
from whatnext.books import all_places, why_no_book
from whatnext.runs import run


class Maker:
    """Makes books; the same seed makes the same ones."""

    def __init__(self, seed):
        self.chance = random.Random(seed)

    def book(self):
        many = self.chance.randint(1, 4)
        self.errands = {f: self.chance.randint(0, 3) for f in "fghi"[:many]}
        return tuple(self.errand(f) for f in self.errands)

    def errand(self, f):
        names = tuple("abc"[: self.errands[f]])
        self.words = iter("klmnopqrstuvwxyz")
        self.rest = self.chance.randint(1, 30)
        return (f, names, self.term(names, 0))

    def term(self, around, within):
        sort = self.chance.choice(["plus", "less", "tell", "let", "if", "if", "ask", "ask", "leaf"])
        if within > 9 or self.rest < 0 or sort == "leaf":
            return self.leaf(around)
        self.rest -= 3
        below = within + 1
        if sort == "plus":
            return plus(self.term(around, below), self.term(around, below))
        if sort == "less":
            return less(self.term(around, below), self.term(around, below))
        if sort == "tell":
            return tell(self.term(around, below))
        if sort == "if":
            return when(self.term(around, below), self.term(around, below), self.term(around, below))
        if sort == "ask":
            f = self.chance.choice(sorted(self.errands))
            return ask(f, *[self.term(around, below) for _ in range(self.errands[f])])
        x = next(self.words)
        return let(x, self.term(around, below), self.term((*around, x), below))

    def leaf(self, around):
        if around and self.chance.random() < 0.6:
            return name(self.chance.choice(around))
        return num(self.chance.choice([0, 0, 1, 2, 999]))


class ReferenceTest(unittest.TestCase):
    def test_runs_are_as_the_reference_has_them(self):
        ends = {"done": 0, "long": 0}
        put_by = 0
        for seed in range(1500):
            maker = Maker(seed)
            book = maker.book()
            self.assertIn(why_no_book(book), (None, "great"))
            f = maker.chance.choice([errand[0] for errand in book])
            numbers = tuple(maker.chance.choice([0, 1, 2, 500, 999]) for _ in range(maker.errands[f]))
            for most in (0, 1, 2, 3, 7, 25):
                expected = run_reference(book, f, numbers, most)
                self.assertEqual(run(book, f, numbers, most), expected, (seed, most))
            ends[expected[1][0]] += 1
            put_by += expected[3] > 0
        # The comparison is worth something only where much is shown by it.
        self.assertGreater(ends["done"], 200)
        self.assertGreater(ends["long"], 200)
        self.assertGreater(put_by, 200)

    def test_places_of_many_books(self):
        for seed in range(300):
            book = Maker(seed).book()
            places = all_places(book)
            order = [errand[0] for errand in book]
            self.assertEqual(places, sorted(places, key=lambda place: (order.index(place[0]), place)))
            self.assertEqual(len(set(places)), len(places))


if __name__ == "__main__":
    unittest.main()
