import unittest

from tests.terms import EVERY_SORT, ask, book_of, chain, less, let, name, num, plus, tell, when
from whatnext.books import all_places, is_simple, is_word, parts_of, term_at

KEPT = ("let", "be", "in", "tell", "if", "then", "else", "home")


class WordTest(unittest.TestCase):
    def test_words(self):
        for word in ("a", "z", "abcdefgh", "lets", "number", "name", "plus", "less", "ask", "give", "homes"):
            with self.subTest(word=word):
                self.assertIs(is_word(word), True)

    def test_the_words_of_the_language_are_none(self):
        for word in KEPT:
            with self.subTest(word=word):
                self.assertIs(is_word(word), False)

    def test_texts_that_are_no_words(self):
        for text in ("", "abcdefghi", "A", "aB", "a1", "a b", " a", "a ", "a\n", "\n", "a_b", "`", "{", "a.b"):
            with self.subTest(text=text):
                self.assertIs(is_word(text), False)

    def test_of_anything(self):
        deep = ()
        for _ in range(204):
            deep = (deep,)
        for thing in (None, True, False, 0, 7, (), ("a",), ["a"], [], {}, {"a": "a"}, deep, [0] * 9999):
            with self.subTest(thing=str(thing)[:20]):
                self.assertIs(is_word(thing), False)


class SimpleTest(unittest.TestCase):
    def test_simple_ones(self):
        for term in (num(0), name("x"), plus(num(1), name("x")), less(plus(num(1), num(2)), less(name("x"), num(3)))):
            with self.subTest(term=term):
                self.assertIs(is_simple(term), True)

    def test_the_other_sorts_are_not_simple(self):
        one = num(1)
        for term in (tell(one), let("x", one, one), when(one, one, one), ask("f"), ask("f", one)):
            with self.subTest(term=term):
                self.assertIs(is_simple(term), False)

    def test_a_sum_or_difference_of_another_sort_is_not_simple(self):
        one = num(1)
        for other in (tell(one), let("x", one, one), when(one, one, one), ask("f")):
            for term in (plus(other, one), plus(one, other), less(one, other), less(plus(one, other), one)):
                with self.subTest(term=term):
                    self.assertIs(is_simple(term), False)

    def test_far_within_one_another(self):
        term = num(1)
        for _ in range(1500):
            term = plus(term, num(1))
        self.assertIs(is_simple(term), True)
        term = tell(num(1))
        for _ in range(1500):
            term = less(num(1), term)
        self.assertIs(is_simple(term), False)


class PartsTest(unittest.TestCase):
    def test_each_sort(self):
        a, b, c = num(1), name("y"), tell(num(2))
        for term, parts in (
            (num(5), ()),
            (name("x"), ()),
            (plus(a, b), (a, b)),
            (less(b, a), (b, a)),
            (tell(a), (a,)),
            (let("x", a, b), (a, b)),
            (when(a, b, c), (a, b, c)),
            (ask("f"), ()),
            (ask("f", a, b, c, a), (a, b, c, a)),
        ):
            with self.subTest(term=term):
                self.assertEqual(parts_of(term), parts)
                self.assertIsInstance(parts_of(term), tuple)


class PlacesTest(unittest.TestCase):
    places = [
        ("f",),
        ("f", 0),
        ("f", 0, 0),
        ("f", 0, 0, 0),
        ("f", 0, 0, 1),
        ("f", 0, 1),
        ("f", 0, 1, 0),
        ("f", 1),
        ("f", 1, 0),
        ("f", 1, 1),
        ("f", 1, 1, 0),
        ("f", 1, 1, 1),
        ("f", 1, 2),
        ("g",),
        ("g", 0),
        ("g", 1),
        ("h",),
    ]

    def test_all_places_in_order(self):
        self.assertEqual(all_places(EVERY_SORT), self.places)

    def test_errands_keep_the_order_of_the_book(self):
        book = (("z", (), num(1)), ("a", (), tell(num(1))), ("m", (), num(2)))
        self.assertEqual(all_places(book), [("z",), ("a",), ("a", 0), ("m",)])

    def test_within_an_errand_they_rise_as_tuples(self):
        body = when(plus(num(1), num(2)), ask("f"), let("x", tell(num(3)), name("x")))
        places = all_places(book_of(body))
        self.assertEqual(places, sorted(places))
        self.assertEqual(len(places), 9)

    def test_a_told_list_emptied_and_asked_again(self):
        told = all_places(EVERY_SORT)
        told.clear()
        self.assertEqual(all_places(EVERY_SORT), self.places)

    def test_term_at_each_place(self):
        body = EVERY_SORT[0][2]
        for place, term in (
            (("f",), body),
            (("f", 0), body[2]),
            (("f", 0, 0), plus(name("a"), num(1))),
            (("f", 0, 0, 1), num(1)),
            (("f", 0, 1), tell(name("b"))),
            (("f", 0, 1, 0), name("b")),
            (("f", 1), body[3]),
            (("f", 1, 0), name("x")),
            (("f", 1, 1, 1), name("a")),
            (("f", 1, 2), ask("h")),
            (("g", 1), name("d")),
            (("h",), num(7)),
        ):
            with self.subTest(place=place):
                self.assertEqual(term_at(EVERY_SORT, place), term)

    def test_more_within_one_another_than_a_book_has(self):
        book = book_of(chain(300))
        places = all_places(book)
        self.assertEqual(len(places), 301)
        self.assertEqual(places[-1], ("f",) + (0,) * 300)
        self.assertEqual(term_at(book, places[-1]), num(1))


if __name__ == "__main__":
    unittest.main()
