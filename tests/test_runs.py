import copy
import unittest

from tests.refusals import Refusals
from tests.terms import ask, book_of, chain, less, let, name, num, plus, tell, when
from whatnext.runs import run

ONE = num(1)
N = name("n")
M = name("m")


def asked(f, *numbers):
    return ("ask", f, numbers)


def told(n):
    return ("tell", n)


def number_of(body, *numbers):
    """The number that f tells, its names being n and m."""
    end = run(book_of(body, *"nm"[: len(numbers)]), "f", numbers, 10)[1]
    assert end[0] == "done", end
    return end[1]


# Counts n down to 0, the sum of all being made when the asks come back.
SUM = (("sum", ("n",), when(N, plus(N, ask("sum", less(N, ONE))), num(0))),)
# Counts n down to 0 by last asks.
DOWN = (("down", ("n",), when(N, ask("down", less(N, ONE)), num(5))),)


class NumbersTest(unittest.TestCase):
    def test_a_number(self):
        for n in (0, 7, 999):
            self.assertEqual(run(book_of(num(n)), "f", (), 1), ([asked("f")], ("done", n), 0, 0))

    def test_a_name(self):
        book = book_of(M, "n", "m")
        self.assertEqual(run(book, "f", (3, 8), 1), ([asked("f", 3, 8)], ("done", 8), 0, 0))

    def test_sums_by_their_rest(self):
        for n, m, both in ((3, 5, 8), (499, 500, 999), (500, 500, 0), (999, 999, 998), (999, 1, 0), (0, 0, 0)):
            self.assertEqual(number_of(plus(N, M), n, m), both)

    def test_differences_by_their_rest(self):
        for n, m, both in ((5, 3, 2), (3, 5, 998), (0, 1, 999), (0, 999, 1), (999, 0, 999), (4, 4, 0)):
            self.assertEqual(number_of(less(N, M), n, m), both)

    def test_each_step_by_its_rest(self):
        self.assertEqual(number_of(less(plus(N, M), num(1)), 999, 1), 999)
        self.assertEqual(number_of(when(plus(N, M), num(1), num(2)), 999, 1), 2)

    def test_tell(self):
        book = book_of(plus(tell(plus(N, ONE)), num(10)), "n")
        self.assertEqual(run(book, "f", (4,), 1), ([asked("f", 4), told(5)], ("done", 15), 0, 0))

    def test_let(self):
        self.assertEqual(number_of(let("x", plus(N, ONE), plus(name("x"), name("x"))), 4), 10)
        self.assertEqual(number_of(let("x", let("y", ONE, plus(name("y"), N)), plus(name("x"), N)), 4), 9)

    def test_if(self):
        for n, got in ((0, 20), (1, 10), (999, 10)):
            self.assertEqual(number_of(when(N, num(10), num(20)), n), got)

    def test_only_one_side_of_an_if_is_done(self):
        book = book_of(when(N, tell(num(10)), tell(num(20))), "n")
        self.assertEqual(run(book, "f", (1,), 1)[0], [asked("f", 1), told(10)])
        self.assertEqual(run(book, "f", (0,), 1)[0], [asked("f", 0), told(20)])

    def test_ask(self):
        book = (
            ("f", ("n",), ask("g", N, plus(N, ONE), num(9))),
            ("g", ("a", "b", "c"), less(name("c"), less(name("b"), name("a")))),
        )
        self.assertEqual(run(book, "f", (4,), 2), ([asked("f", 4), asked("g", 4, 5, 9)], ("done", 8), 0, 0))

    def test_words_of_an_asker_are_not_touched(self):
        book = (
            ("f", ("n",), let("x", num(3), plus(plus(ask("g", num(9)), N), name("x")))),
            ("g", ("n",), let("x", num(50), plus(N, name("x")))),
        )
        self.assertEqual(run(book, "f", (4,), 2)[1], ("done", 66))

    def test_words_of_an_asker_of_the_same_name(self):
        body = let("x", plus(N, num(10)), when(N, plus(ask("f", less(N, ONE)), name("x")), name("x")))
        self.assertEqual(run(book_of(body, "n"), "f", (2,), 9)[1], ("done", 33))


class OrderTest(unittest.TestCase):
    def trail(self, body, *numbers):
        book = (*book_of(body, *"nm"[: len(numbers)]), ("g", ("a", "b"), tell(plus(name("a"), name("b")))), ("h", (), num(3)))
        return run(book, "f", numbers, 10)[0][1:]

    def test_parts_are_done_in_order(self):
        one, two, three = tell(num(1)), tell(num(2)), tell(num(3))
        self.assertEqual(self.trail(plus(one, two)), [told(1), told(2)])
        self.assertEqual(self.trail(less(two, one)), [told(2), told(1)])
        self.assertEqual(self.trail(let("x", two, one)), [told(2), told(1)])
        self.assertEqual(self.trail(when(two, one, three)), [told(2), told(1)])
        self.assertEqual(self.trail(tell(tell(tell(num(4))))), [told(4)] * 3)

    def test_the_term_itself_comes_behind_its_parts(self):
        self.assertEqual(self.trail(ask("g", tell(num(1)), tell(num(2)))), [told(1), told(2), asked("g", 1, 2), told(3)])
        self.assertEqual(self.trail(tell(plus(tell(num(1)), ask("h")))), [told(1), asked("h"), told(4)])
        self.assertEqual(
            self.trail(ask("g", ask("h"), ask("g", ask("h"), num(5)))),
            [asked("h"), asked("h"), asked("g", 3, 5), told(8), asked("g", 3, 8), told(11)],
        )

    def test_what_comes_behind_an_ask(self):
        self.assertEqual(
            self.trail(let("x", ask("g", num(1), num(2)), plus(tell(num(9)), tell(name("x"))))),
            [asked("g", 1, 2), told(3), told(9), told(3)],
        )


class WaitingTest(unittest.TestCase):
    def deepest(self, body, others=(("g", (), num(1)),)):
        return run((*book_of(body), *others), "f", (), 50)[2]

    def test_a_last_ask_lets_nobody_wait(self):
        g = ask("g")
        for body in (g, let("x", ONE, g), when(ONE, g, ONE), when(num(0), ONE, g), let("x", ONE, when(ONE, let("y", ONE, g), g))):
            with self.subTest(body=body):
                self.assertEqual(self.deepest(body), 0)

    def test_another_ask_lets_one_wait(self):
        g = ask("g")
        for body in (
            plus(g, ONE),
            less(ONE, g),
            tell(g),
            let("x", g, ONE),
            when(g, ONE, ONE),
            tell(when(ONE, g, ONE)),
            tell(when(num(0), ONE, g)),
            tell(let("x", ONE, g)),
            let("x", let("y", ONE, g), ONE),
            let("x", when(ONE, g, ONE), ONE),
            when(let("x", ONE, g), ONE, ONE),
            when(when(ONE, g, ONE), ONE, ONE),
            plus(ONE, when(ONE, let("x", ONE, g), ONE)),
            # Both wait, but one behind the other.
            plus(g, g),
            let("x", g, tell(g)),
        ):
            with self.subTest(body=body):
                self.assertEqual(self.deepest(body), 1)

    def test_the_terms_in_a_last_ask_are_not_last(self):
        others = (("g", ("a",), name("a")), ("h", (), num(1)))
        self.assertEqual(self.deepest(ask("g", ask("h")), others), 1)

    def test_who_waits_is_added_up(self):
        others = (("g", (), tell(ask("h"))), ("h", (), plus(ONE, ask("i"))), ("i", (), ONE))
        self.assertEqual(self.deepest(tell(ask("g")), others), 3)
        self.assertEqual(self.deepest(ask("g"), others), 2)
        self.assertEqual(self.deepest(ask("h"), others), 1)
        self.assertEqual(self.deepest(plus(ask("g"), ask("h")), others), 3)
        self.assertEqual(self.deepest(plus(ask("h"), ask("i")), others), 2)

    def test_as_many_behind_a_last_ask(self):
        others = (("g", (), ask("h")), ("h", (), tell(ask("i"))), ("i", (), ONE))
        self.assertEqual(self.deepest(tell(ask("g")), others), 2)

    def test_long_rows(self):
        self.assertEqual(run(SUM, "sum", (900,), 901)[1:], (("done", 450), 900, 900))
        self.assertEqual(run(DOWN, "down", (900,), 901)[1:], (("done", 5), 0, 0))


class LeftTest(unittest.TestCase):
    def left(self, body, most=50):
        return run((*book_of(body), ("g", (), num(1)), ("h", ("a",), name("a"))), "f", (), most)[3]

    def test_led_on(self):
        g = ask("g")
        for body in (
            g,
            let("x", ONE, g),
            when(ONE, g, ONE),
            when(num(0), ONE, g),
            # An ask or an if in B or C of any if is led on, whatever stands around it.
            let("x", ONE, when(ONE, when(ONE, g, ONE), ONE)),
            tell(plus(num(3), ONE)),
            plus(let("x", ONE, ONE), tell(ONE)),
        ):
            with self.subTest(body=body):
                self.assertEqual(self.left(body), 0)

    def test_put_by(self):
        g = ask("g")
        for body, left in (
            (plus(g, ONE), 1),
            (less(ONE, g), 1),
            (tell(g), 1),
            (ask("h", g), 1),
            (let("x", g, ONE), 1),
            (when(g, ONE, ONE), 1),
            (let("x", g, ask("h", g)), 2),
            (plus(g, g), 2),
            (plus(when(ONE, ONE, ONE), ONE), 1),
            (tell(when(num(0), ONE, ONE)), 1),
            (let("x", when(ONE, ONE, ONE), ONE), 1),
            (when(when(ONE, ONE, ONE), ONE, ONE), 1),
            (ask("h", when(ONE, ONE, ONE)), 1),
            (when(when(g, ONE, ONE), ONE, ONE), 2),
            # B of a let that is put by is put by, too.
            (tell(let("x", ONE, g)), 1),
            (tell(let("x", ONE, let("y", ONE, when(ONE, ONE, ONE)))), 1),
            (let("x", let("y", ONE, g), ONE), 1),
        ):
            with self.subTest(body=body):
                self.assertEqual(self.left(body), left)

    def test_within_an_if_that_is_put_by(self):
        g = ask("g")
        for inner in (g, let("x", ONE, g), when(ONE, g, ONE), when(ONE, when(num(0), ONE, g), ONE)):
            with self.subTest(inner=inner):
                self.assertEqual(self.left(tell(when(ONE, inner, ONE))), 1)
                self.assertEqual(self.left(tell(when(num(0), ONE, inner))), 1)
        self.assertEqual(self.left(tell(when(ONE, plus(g, ONE), ONE))), 2)

    def test_what_is_not_gone_into(self):
        g = ask("g")
        self.assertEqual(self.left(when(ONE, ONE, tell(g))), 0)
        self.assertEqual(self.left(when(num(0), tell(g), ONE)), 0)

    def test_also_an_ask_beyond_the_most(self):
        g = ask("g")
        self.assertEqual(self.left(tell(g), 1), 1)
        self.assertEqual(self.left(g, 1), 0)
        self.assertEqual(self.left(plus(g, g), 2), 2)
        self.assertEqual(self.left(tell(when(ONE, g, ONE)), 1), 1)

    def test_not_where_its_parts_are_not_there(self):
        self.assertEqual(self.left(tell(ask("h", ask("g"))), 1), 1)
        self.assertEqual(self.left(tell(ask("h", ask("g"))), 2), 2)
        self.assertEqual(self.left(tell(when(ask("g"), ONE, ONE)), 1), 1)
        self.assertEqual(self.left(tell(when(ask("g"), ONE, ONE)), 2), 2)


class MostTest(unittest.TestCase):
    def test_none_at_all(self):
        for book, f, numbers in ((book_of(tell(ONE)), "f", ()), (SUM, "sum", (3,))):
            self.assertEqual(run(book, f, numbers, 0), ([], ("long",), 0, 0))

    def test_just_enough_and_one_fewer(self):
        trail = [asked("sum", 2), asked("sum", 1), asked("sum", 0)]
        self.assertEqual(run(SUM, "sum", (2,), 4), (trail, ("done", 3), 2, 2))
        self.assertEqual(run(SUM, "sum", (2,), 3), (trail, ("done", 3), 2, 2))
        # The ask beyond the most isn't done: it is left, but nobody waits at it.
        self.assertEqual(run(SUM, "sum", (2,), 2), (trail[:2], ("long",), 1, 2))
        self.assertEqual(run(SUM, "sum", (2,), 1), (trail[:1], ("long",), 0, 1))

    def test_the_terms_of_an_ask_beyond_the_most_are_done(self):
        book = book_of(plus(tell(num(4)), ask("f")))
        self.assertEqual(run(book, "f", (), 1), ([asked("f"), told(4)], ("long",), 0, 1))
        self.assertEqual(
            run(book, "f", (), 2), ([asked("f"), told(4), asked("f"), told(4)], ("long",), 1, 2)
        )

    def test_nothing_comes_behind_the_end(self):
        book = book_of(plus(ask("f"), tell(num(4))))
        self.assertEqual(run(book, "f", (), 2), ([asked("f")] * 2, ("long",), 1, 2))

    def test_three_thousand(self):
        trail, end, deepest, left = run(SUM, "sum", (999,), 3000)
        self.assertEqual((len(trail), end, deepest, left), (1000, ("done", 500), 999, 999))
        trail, end, deepest, left = run(book_of(plus(ask("f"), ONE)), "f", (), 3000)
        self.assertEqual((trail, end, deepest, left), ([asked("f")] * 3000, ("long",), 2999, 3000))
        trail, end, deepest, left = run(book_of(ask("f")), "f", (), 3000)
        self.assertEqual((trail, end, deepest, left), ([asked("f")] * 3000, ("long",), 0, 0))
        self.assertEqual(len(run(book_of(ask("f")), "f", (), 2999)[0]), 2999)


class RefusalsTest(Refusals, unittest.TestCase):
    book = (("f", ("n", "m"), plus(N, M)), ("g", (), ONE))

    def runs(self, f, numbers, most):
        return run(self.book, f, numbers, most)


class ToldTest(unittest.TestCase):
    def test_what_is_told_is_new(self):
        first = run(SUM, "sum", (2,), 9)
        kept = copy.deepcopy(first)
        first[0].clear()
        self.assertEqual(run(SUM, "sum", (2,), 9), kept)

    def test_kinds(self):
        trail, end, deepest, left = run(SUM, "sum", (2,), 9)
        self.assertIsInstance(trail, list)
        for row in trail:
            self.assertIsInstance(row, tuple)
            self.assertIsInstance(row[2], tuple)
        self.assertIsInstance(end, tuple)
        for number in (deepest, left):
            self.assertIs(int, number.__class__)

    def test_books_greater_than_books_may_be(self):
        # Such ones may be told elsewhere, and handed in here.
        self.assertEqual(run(book_of(chain(1500)), "f", (), 1), ([asked("f")] + [told(1)] * 1500, ("done", 1), 0, 0))
        names = tuple("abcdefg")
        book = (("f", names, name("g")), ("h", (), ask("f", *[num(k) for k in range(7)])))
        self.assertEqual(run(book, "h", (), 2)[1], ("done", 6))
        self.assertEqual(run(book, "f", (0, 0, 0, 0, 0, 0, 4), 2)[1], ("done", 4))


if __name__ == "__main__":
    unittest.main()
