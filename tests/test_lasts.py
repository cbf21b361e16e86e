import unittest

from tests.makers import BookMaker
from tests.reference import led_and_last, run_and_count
from tests.terms import EVERY_SORT, ask, book_of, chain, less, let, name, num, plus, tell, when
from whatnext.books import all_places, term_at
from whatnext.lasts import last_places, led_places
from whatnext.runs import run

ONE = num(1)


class LastsTest(unittest.TestCase):
    def both(self, body, led, last):
        """The places, each without the errand's name in front of it."""
        book = book_of(body, "n")
        self.assertEqual(led_places(book), [("f", *place) for place in led])
        self.assertEqual(last_places(book), [("f", *place) for place in last])

    def test_a_body_of_each_sort(self):
        for body in (
            ONE,
            name("n"),
            plus(ONE, ONE),
            less(ONE, ask("f", ONE)),
            tell(ask("f", ONE)),
            ask("f", ask("f", ONE)),
            plus(tell(ONE), plus(ONE, ONE)),
        ):
            with self.subTest(body=body):
                self.both(body, [()], [()])

    def test_a_let(self):
        self.both(let("x", ONE, name("x")), [(), (1,)], [(), (1,)])
        self.both(let("x", ONE, let("y", ONE, ONE)), [(), (1,), (1, 1)], [(), (1,), (1, 1)])

    def test_an_a_of_a_let(self):
        self.both(let("x", let("y", ONE, ONE), ONE), [(), (1,)], [(), (1,)])
        self.both(let("x", when(ONE, ONE, ONE), ONE), [(), (0, 1), (0, 2), (1,)], [(), (1,)])

    def test_an_if(self):
        self.both(when(ONE, ONE, ONE), [(), (1,), (2,)], [(), (1,), (2,)])
        places = [(), (1,), (1, 1), (1, 2), (2,), (2, 1)]
        self.both(when(ONE, when(ONE, ONE, ONE), let("x", ONE, ONE)), places, places)

    def test_an_a_of_an_if(self):
        self.both(when(let("x", ONE, ONE), ONE, ONE), [(), (1,), (2,)], [(), (1,), (2,)])
        self.both(when(when(ONE, ONE, ONE), ONE, ONE), [(), (0, 1), (0, 2), (1,), (2,)], [(), (1,), (2,)])

    def test_an_if_that_is_put_by(self):
        for around in (tell, lambda a: plus(a, ONE), lambda a: less(a, ONE), lambda a: ask("f", a)):
            self.both(around(when(ONE, ONE, ONE)), [(), (0, 1), (0, 2)], [()])
            self.both(around(when(ONE, let("x", ONE, ONE), ONE)), [(), (0, 1), (0, 1, 1), (0, 2)], [()])
            self.both(around(when(ONE, tell(ONE), when(ONE, ONE, ONE))), [(), (0, 1), (0, 2), (0, 2, 1), (0, 2, 2)], [()])

    def test_a_let_that_is_put_by(self):
        for around in (tell, lambda a: plus(a, ONE), lambda a: less(a, ONE), lambda a: ask("f", a)):
            self.both(around(let("x", ONE, let("y", ONE, ONE))), [()], [()])
            self.both(around(let("x", ONE, when(ONE, ONE, ONE))), [(), (0, 1, 1), (0, 1, 2)], [()])

    def test_every_sort_in_order(self):
        places = [("f",), ("f", 1), ("f", 1, 1), ("f", 1, 2), ("g",), ("h",)]
        self.assertEqual(led_places(EVERY_SORT), places)
        self.assertEqual(last_places(EVERY_SORT), places)

    def test_errands_keep_the_order_of_the_book(self):
        book = (("z", (), when(ONE, ONE, ONE)), ("a", (), tell(when(ONE, ONE, ONE))), ("m", (), ONE))
        self.assertEqual(led_places(book), [("z",), ("z", 1), ("z", 2), ("a",), ("a", 0, 1), ("a", 0, 2), ("m",)])
        self.assertEqual(last_places(book), [("z",), ("z", 1), ("z", 2), ("a",), ("m",)])

    def test_a_told_list_emptied_and_asked_again(self):
        for places_of in (led_places, last_places):
            told = places_of(EVERY_SORT)
            kept = list(told)
            told.clear()
            self.assertEqual(places_of(EVERY_SORT), kept)
            self.assertIsInstance(told, list)

    def test_more_within_one_another_than_a_book_has(self):
        body = ONE
        for _ in range(400):
            body = when(ONE, ONE, body)
        self.assertEqual(len(last_places(book_of(body))), 801)
        self.assertEqual(last_places(book_of(chain(1500))), [("f",)])
        self.assertEqual(led_places(book_of(tell(body)))[-1], ("f", 0, *[2] * 400))


class ByReferenceTest(unittest.TestCase):
    def test_many_books(self):
        for seed in range(400):
            book = BookMaker(seed).book()
            led, last = set(), set()
            for errand, names, body in book:
                own_led, own_last = led_and_last(errand, body)
                led |= own_led
                last |= own_last
            self.assertEqual(led_places(book), [place for place in all_places(book) if place in led])
            self.assertEqual(last_places(book), [place for place in all_places(book) if place in last])

    def test_no_more_wait_than_asks_that_are_not_last_were_done(self):
        waited = fewer = 0
        for seed in range(400):
            maker = BookMaker(seed)
            book = maker.book()
            numbers = tuple([1] * maker.errands["f"])
            told, not_last = run_and_count(book, "f", numbers, 40)
            self.assertEqual(run(book, "f", numbers, 40), told)
            self.assertLessEqual(told[2], not_last)
            last = last_places(book)
            if all(place in last for place in all_places(book) if term_at(book, place)[0] == "ask"):
                self.assertEqual(told[2], 0)
            waited += told[2] > 0
            fewer += told[2] < not_last
        self.assertGreater(waited, 50)
        self.assertGreater(fewer, 10)


if __name__ == "__main__":
    unittest.main()
