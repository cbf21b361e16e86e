import copy
import unittest

from tests.terms import EVERY_SORT, ask, book_of, broad, chain, less, let, name, num, plus, tell, when
from whatnext.books import all_places, need_book, why_no_book
from whatnext.errors import NextError, NoBook

ONE = num(1)


def deep_thing(within, made, inner=ONE):
    thing = inner
    for _ in range(within):
        thing = made(thing)
    return thing


class NoBookTest(unittest.TestCase):
    def fault(self, thing, fault):
        """The fault is told, and need_book refuses with it, twice alike."""
        for _ in range(2):
            self.assertEqual(why_no_book(thing), fault)
            if fault is None:
                self.assertIsNone(need_book(thing))
            else:
                with self.assertRaises(NoBook) as caught:
                    need_book(thing)
                self.assertEqual(caught.exception.fault, fault)
                self.assertIsInstance(caught.exception, NextError)

    def faults(self, fault, things):
        for thing in things:
            with self.subTest(thing=str(thing)[:80]):
                self.fault(thing, fault)


class BooksTest(NoBookTest):
    def test_books(self):
        six = tuple((f, (), ONE) for f in "abcdef")
        four = (("f", ("a", "b", "c", "d"), ask("f", name("d"), name("c"), name("b"), name("a"))),)
        self.faults(None, [EVERY_SORT, six, four, book_of(ONE), book_of(num(0)), book_of(num(999))])

    def test_words_that_other_things_have_too(self):
        # An errand's name isn't around in its body, nor are its words asked.
        self.fault((("f", ("f",), ask("f", name("f"))), ("g", ("f",), let("g", ONE, name("g")))), None)
        self.fault(book_of(let("number", name("plus"), name("number")), "plus"), None)
        self.fault((("f", ("x",), let("y", ONE, ONE)), ("g", ("y",), let("x", ONE, ONE))), None)


class ShapeTest(NoBookTest):
    def test_of_anything_else(self):
        many = [0] * 9999
        self.faults(
            "shape",
            [None, True, False, 0, 5, "", "f", "book", (), [], {}, {"f": ((), ONE)}, many, tuple(many)],
        )

    def test_far_within_one_another_of_anything(self):
        for made in (
            lambda t: (t,),
            lambda t: [t],
            lambda t: {"a": t},
            lambda t: ("tell", [t]),
            lambda t: ("f", (), t),
        ):
            self.fault(deep_thing(200, made), "shape")
            self.fault(book_of(deep_thing(200, made)), "shape")

    def test_how_many_errands(self):
        self.fault((), "shape")
        self.fault(tuple((f, (), ONE) for f in "abcdefg"), "shape")

    def test_errands_made_otherwise(self):
        self.faults(
            "shape",
            [
                ("f", (), ONE),
                [("f", (), ONE)],
                (["f", (), ONE],),
                (("f", [], ONE),),
                (("f", {}, ONE),),
                (("f", None, ONE),),
                (("f", "", ONE),),
                (("f", "ab", ONE),),
                (("f", ()),),
                (("f", (), ONE, ONE),),
                ((),),
                ("f",),
                (None,),
                ({"f": 1},),
                (("f", (), ONE), None),
                (("f", ("a", "b", "c", "d", "e"), ONE),),
            ],
        )

    def test_words_that_are_none(self):
        nones = ("", "abcdefghi", "A", "a1", "a b", "a\n", "let", "be", "in", "tell", "if", "then", "else", "home")
        for word in (*nones, None, 0, True, (), ("a",), ["a"], {"a": "a"}):
            self.faults(
                "shape",
                [
                    ((word, (), ONE),),
                    (("f", (word,), ONE),),
                    (("f", ("a", word), ONE),),
                    book_of(name(word)),
                    book_of(let(word, ONE, ONE)),
                    book_of(ask(word)),
                ],
            )

    def test_numbers_that_are_none(self):
        for n in (-1, 1000, True, False, None, "1", "", (1,), [1], {1: 1}):
            self.faults("shape", [book_of(num(n)), book_of(plus(ONE, num(n))), book_of(ask("f", num(n)))])

    def test_terms_made_otherwise(self):
        self.faults(
            "shape",
            [
                book_of(term)
                for term in (
                    None,
                    True,
                    3,
                    "x",
                    "number",
                    (),
                    {},
                    [],
                    ["number", 1],
                    {"number": 1},
                    (1, 2),
                    (True, 1),
                    (None, 1),
                    (("number", 1), 1),
                    (["number"], 1),
                    ({}, 1),
                    ("number",),
                    ("number", 1, 1),
                    ("name",),
                    ("name", "a", "a"),
                    ("plus", ONE),
                    ("plus", ONE, ONE, ONE),
                    ("less", ONE),
                    ("less", ONE, ONE, ONE),
                    ("tell",),
                    ("tell", ONE, ONE),
                    ("let", "x", ONE),
                    ("let", "x", ONE, ONE, ONE),
                    ("let", ONE, ONE, ONE),
                    ("if", ONE, ONE),
                    ("if", ONE, ONE, ONE, ONE),
                    ("ask", "f"),
                    ("ask", "f", (), ()),
                    ("ask", "f", []),
                    ("ask", "f", {}),
                    ("ask", "f", None),
                    ("ask", "f", "ab"),
                    ("ask", "f", ONE),
                    ("ask", "f", (ONE,) * 5),
                    ("ask", "f", [ONE]),
                    ("give", "home", ONE),
                    ("post", "j", "x", ONE, ONE),
                    ("", ONE),
                    ("home", ONE),
                    ("a\nb", ONE),
                )
            ],
        )

    def test_each_part_is_a_term(self):
        for bad in (None, 1, True, ["number", 1], ("number", True), (), {}):
            self.faults(
                "shape",
                [
                    book_of(term)
                    for term in (
                        plus(bad, ONE),
                        plus(ONE, bad),
                        less(bad, ONE),
                        less(ONE, bad),
                        tell(bad),
                        let("x", bad, ONE),
                        let("x", ONE, bad),
                        when(bad, ONE, ONE),
                        when(ONE, bad, ONE),
                        when(ONE, ONE, bad),
                        ask("f", bad),
                        ask("f", ONE, ONE, ONE, bad),
                    )
                ],
            )

    def test_a_later_errand(self):
        self.fault((("f", (), ONE), ("g", (), num(1000))), "shape")

    def test_ahead_of_the_later_faults(self):
        self.fault((("f", (), ONE), ("f", (), num(1000))), "shape")
        self.fault(book_of(plus(name("x"), num(True))), "shape")
        self.fault(book_of(plus(broad(50), None)), "shape")
        self.fault(book_of(deep_thing(200, tell, [1])), "shape")
        self.fault((("f", (), plus(broad(50), name("x"))), ("g", [], ONE)), "shape")


class NamesTest(NoBookTest):
    def test_two_errands_of_one_name(self):
        self.fault((("f", (), ONE), ("f", ("a",), ONE)), "names")
        self.fault((("f", (), ONE), ("g", (), ONE), ("f", (), ONE)), "names")

    def test_a_word_twice(self):
        self.faults(
            "names",
            [
                book_of(ONE, "a", "a"),
                book_of(ONE, "a", "b", "c", "a"),
                book_of(let("a", ONE, ONE), "a"),
                book_of(let("a", ONE, let("a", ONE, ONE))),
                book_of(let("a", let("a", ONE, ONE), ONE)),
                book_of(plus(let("a", ONE, ONE), let("a", ONE, ONE))),
                book_of(when(ONE, let("a", ONE, ONE), let("a", ONE, ONE))),
                book_of(ask("f", let("a", ONE, ONE), tell(let("a", ONE, ONE))), "b", "c"),
                (("g", (), ONE), *book_of(less(let("a", ONE, ONE), let("a", ONE, ONE)))),
            ],
        )

    def test_a_name_that_is_not_around(self):
        x = name("x")
        self.faults(
            "names",
            [
                book_of(x),
                book_of(x, "a", "b"),
                book_of(let("x", x, ONE)),
                book_of(plus(let("x", ONE, x), x)),
                book_of(plus(x, let("x", ONE, x))),
                book_of(let("y", let("x", ONE, x), x)),
                book_of(when(let("x", ONE, x), x, ONE)),
                book_of(when(ONE, let("x", ONE, x), x)),
                book_of(tell(x)),
                book_of(name("f")),
                (("f", ("x",), x), ("g", (), x)),
                (("g", ("x",), x), ("f", (), let("y", ONE, x))),
                (("f", ("a",), ask("f", x)),),
            ],
        )

    def test_names_that_are_around(self):
        x = name("x")
        self.faults(
            None,
            [
                book_of(x, "x"),
                book_of(let("x", ONE, x)),
                book_of(let("x", ONE, let("y", x, plus(x, name("y"))))),
                book_of(let("y", let("x", ONE, x), name("y"))),
                book_of(let("y", x, when(x, tell(x), name("y"))), "x"),
            ],
        )

    def test_asks(self):
        self.faults(
            "names",
            [
                book_of(ask("g")),
                book_of(ask("a"), "a"),
                book_of(ask("f", ONE)),
                book_of(ask("f"), "a"),
                book_of(ask("f", ONE, ONE, ONE), "a", "b"),
                book_of(tell(plus(ONE, ask("g")))),
                (("f", (), ask("g")), ("g", ("a",), ONE)),
                (("f", (), ONE), ("g", ("a",), ask("f", ONE))),
                book_of(let("x", ONE, ask("x"))),
            ],
        )
        self.fault((("f", ("a",), ask("g")), ("g", (), ask("f", ask("g")))), None)

    def test_ahead_of_great(self):
        self.fault(book_of(plus(broad(60), name("x"))), "names")
        self.fault(book_of(deep_thing(30, tell, ask("g"))), "names")
        self.fault((("f", (), broad(60)), ("f", (), ONE)), "names")
        self.fault((("f", (), broad(60)), ("g", (), name("x"))), "names")


class GreatTest(NoBookTest):
    def test_how_many_terms(self):
        self.assertEqual(len(all_places(book_of(broad(40)))), 40)
        self.assertEqual(len(all_places(book_of(broad(41)))), 41)
        self.fault(book_of(broad(40)), None)
        self.fault(book_of(broad(41)), "great")

    def test_how_many_terms_of_every_sort(self):
        four = ask("f", ONE, ONE, ONE, ONE)
        nine = less(tell(let("x", ONE, name("x"))), when(ONE, ONE, ONE))
        self.fault(book_of(plus(plus(nine, four), broad(24)), *"abcd"), None)
        self.fault(book_of(plus(plus(nine, four), broad(25)), *"abcd"), "great")

    def test_each_body_by_itself(self):
        self.fault((("f", (), broad(40)), ("g", (), broad(40))), None)
        self.fault((("f", (), ONE), ("g", (), broad(41))), "great")

    def test_how_many_around(self):
        self.fault(book_of(chain(12)), None)
        self.fault(book_of(chain(13)), "great")
        self.fault((("g", (), ONE), *book_of(chain(13))), "great")

    def test_around_by_every_sort(self):
        for made in (
            lambda t: plus(t, ONE),
            lambda t: less(ONE, t),
            lambda t: when(t, ONE, ONE),
            lambda t: when(ONE, ONE, t),
            lambda t: ask("f", t),
        ):
            self.fault(book_of(deep_thing(12, made), *(["a"] if made(ONE)[0] == "ask" else [])), None)
            self.fault(book_of(deep_thing(13, made), *(["a"] if made(ONE)[0] == "ask" else [])), "great")
        lets = ONE
        for word in "abcdefghijkl":
            lets = let(word, ONE, lets)
        self.fault(book_of(lets), None)
        self.fault(book_of(let("m", ONE, lets)), "great")
        self.fault(book_of(let("m", lets, ONE)), "great")

    def test_far_within_one_another_and_many(self):
        self.fault(book_of(chain(200)), "great")
        self.fault(book_of(deep_thing(200, lambda t: plus(t, ONE))), "great")
        self.fault(book_of(broad(3000)), "great")
        lets = ONE
        for k in range(200):
            lets = let(chr(97 + k // 26) + chr(97 + k % 26) + "z", ONE, lets)
        self.fault(book_of(lets), "great")


class HandedInTest(NoBookTest):
    def test_nothing_is_changed(self):
        for thing in ([1, [2], {"a": [3]}], {"f": [ONE]}, (("f", [], ONE),), ("f", (), ["number", 1]), EVERY_SORT):
            before = copy.deepcopy(thing)
            why_no_book(thing)
            self.assertEqual(thing, before)


if __name__ == "__main__":
    unittest.main()
