import copy
import unittest

from tests.makers import TurnedMaker
from tests.refusals import Refusals
from tests.terms import less, name, num, plus
from tests.turned_reference import run_turned_reference
from tests.turned_terms import BENT, EVERY_PART, fork, give, hand, held, letters, post, told, turned_of
from whatnext.turnedbooks import is_turned
from whatnext.turnedruns import run_turned

ONE = num(1)
N = name("n")
M = name("m")
X = name("x")


def asked(f, *numbers):
    return ("ask", f, numbers)


def teller(n):
    return ("tell", n)


# Counts n down to 0, the sum of all being made by what comes next.
SUM = (
    (
        "sum",
        ("n",),
        fork(
            N,
            post("j", "x", give("home", plus(N, X)), hand("sum", less(N, ONE), to="j")),
            give("home", num(0)),
        ),
    ),
)
# Counts n down to 0, handing on home.
DOWN = (("down", ("n",), fork(N, hand("down", less(N, ONE)), give("home", num(5)))),)
# Another errand that f asks.
G = ("g", ("a", "b"), told("c", plus(name("a"), name("b")), give("home", name("c"))))


class RunsTest(unittest.TestCase):
    def run_of(self, body, *numbers, most=50):
        turned = (*turned_of(body, *"nm"[: len(numbers)]), G, ("h", (), give("home", num(3))))
        self.assertTrue(is_turned(turned))
        return run_turned(turned, "f", numbers, most)

    def number(self, body, *numbers):
        trail, end, deepest, made = self.run_of(body, *numbers)
        self.assertEqual(end[0], "done")
        return end[1]


class PartsTest(RunsTest):
    def test_a_give_to_the_end(self):
        for n in (0, 7, 999):
            self.assertEqual(self.run_of(give("home", num(n))), ([asked("f")], ("done", n), 0, 0))

    def test_simple_terms(self):
        for term, n, m, got in (
            (N, 4, 8, 4),
            (M, 4, 8, 8),
            (plus(N, M), 500, 500, 0),
            (plus(N, M), 999, 999, 998),
            (less(N, M), 3, 5, 998),
            (less(N, M), 0, 999, 1),
            (less(N, M), 5, 3, 2),
            (less(plus(N, ONE), less(M, num(2))), 999, 1, 1),
        ):
            self.assertEqual(self.number(give("home", term), n, m), got)

    def test_an_if_by_the_rest(self):
        body = fork(plus(N, ONE), give("home", num(10)), give("home", num(20)))
        for n, got in ((0, 10), (1, 10), (998, 10), (999, 20)):
            self.assertEqual(self.number(body, n), got)

    def test_a_let(self):
        body = held("x", plus(N, ONE), held("y", plus(X, X), give("home", less(name("y"), N))))
        self.assertEqual(self.run_of(body, 4), ([asked("f", 4)], ("done", 6), 0, 0))

    def test_a_tell(self):
        body = told("x", plus(N, ONE), told("y", plus(X, num(998)), give("home", plus(X, name("y")))))
        self.assertEqual(self.run_of(body, 4), ([asked("f", 4), teller(5), teller(3)], ("done", 8), 0, 0))

    def test_only_one_side_of_an_if_is_done(self):
        body = fork(N, told("x", num(1), give("home", X)), told("y", num(2), give("home", name("y"))))
        self.assertEqual(self.run_of(body, 1)[0], [asked("f", 1), teller(1)])
        self.assertEqual(self.run_of(body, 0)[0], [asked("f", 0), teller(2)])

    def test_an_ask_that_hands_on_home(self):
        body = hand("g", N, plus(N, ONE))
        self.assertEqual(self.run_of(body, 4), ([asked("f", 4), asked("g", 4, 5), teller(9)], ("done", 9), 0, 0))

    def test_a_post(self):
        body = post("j", "x", told("y", X, give("home", plus(X, ONE))), hand("g", N, M, to="j"))
        self.assertEqual(
            self.run_of(body, 4, 5), ([asked("f", 4, 5), asked("g", 4, 5), teller(9), teller(9)], ("done", 10), 1, 1)
        )

    def test_u_of_a_post_goes_ahead_of_its_t(self):
        body = post("j", "x", told("y", num(2), give("home", X)), told("z", num(1), give("j", num(7))))
        self.assertEqual(self.run_of(body), ([asked("f"), teller(1), teller(2)], ("done", 7), 0, 1))

    def test_a_hand_on_may_not_be_used(self):
        body = post("j", "x", told("y", X, give("home", X)), give("home", num(4)))
        self.assertEqual(self.run_of(body), ([asked("f")], ("done", 4), 0, 1))
        self.assertEqual(run_turned(BENT, "f", (), 1), ([asked("f")], ("done", 4), 0, 1))

    def test_a_hand_on_used_at_several_places(self):
        body = post("j", "x", give("home", plus(X, num(100))), fork(N, give("j", ONE), hand("h", to="j")))
        self.assertEqual(self.run_of(body, 1), ([asked("f", 1)], ("done", 101), 0, 1))
        self.assertEqual(self.run_of(body, 0), ([asked("f", 0), asked("h")], ("done", 103), 1, 1))

    def test_a_post_done_often(self):
        # Each asking of f makes a hand-on of its own, all of them used in the end.
        body = post("j", "x", told("y", plus(X, N), give("home", name("y"))), fork(N, hand("f", less(N, ONE), to="j"), give("j", ONE)))
        self.assertEqual(
            self.run_of(body, 3),
            ([asked("f", k) for k in (3, 2, 1, 0)] + [teller(k) for k in (1, 2, 4, 7)], ("done", 7), 3, 4),
        )


class AroundTest(RunsTest):
    def test_words_that_were_around_a_post(self):
        body = held("y", num(40), post("j", "x", give("home", plus(X, plus(name("y"), N))), hand("f", less(N, ONE), to="j")))
        body = fork(N, body, give("home", num(0)))
        # 0, then 1 and 40 more, then 2 and 40 more: each asking has its own n and y.
        self.assertEqual(self.number(body, 2), 83)

    def test_words_of_another_asking_are_not_touched(self):
        asker = ("f", ("a",), held("b", num(3), post("j", "x", give("home", plus(name("a"), name("b"))), hand("g", num(9), to="j"))))
        other = ("g", ("a",), held("b", num(50), give("home", name("b"))))
        self.assertEqual(run_turned((asker, other), "f", (4,), 9)[1], ("done", 7))

    def test_hand_ons_that_were_around_a_post(self):
        inner = post("k", "y", give("j", plus(name("y"), ONE)), hand("h", to="k"))
        body = post("j", "x", give("home", plus(X, num(100))), inner)
        self.assertEqual(self.run_of(body), ([asked("f"), asked("h")], ("done", 104), 1, 2))

    def test_home_around_a_post_is_that_of_its_asking(self):
        # f hands j to g, whose own home that is, and whose k goes on to it.
        asker = ("f", (), post("j", "x", give("home", plus(X, num(100))), hand("g", to="j")))
        other = ("g", (), post("k", "x", give("home", plus(X, num(10))), hand("h", to="k")))
        last = ("h", (), give("home", num(1)))
        self.assertEqual(
            run_turned((asker, other, last), "f", (), 9),
            ([asked("f"), asked("g"), asked("h")], ("done", 111), 2, 2),
        )

    def test_a_bent_book_goes_past_what_is_due(self):
        past = post("k", "y", told("z", num(7), give("j", ONE)), give("home", num(5)))
        body = post("j", "x", told("w", num(8), give("home", X)), past)
        self.assertEqual(self.run_of(body), ([asked("f")], ("done", 5), 0, 2))
        past = post("k", "y", told("z", num(7), give("j", ONE)), hand("h", to="j"))
        body = post("j", "x", told("w", num(8), give("home", X)), past)
        self.assertEqual(self.run_of(body), ([asked("f"), asked("h"), teller(8)], ("done", 3), 1, 2))

    def test_a_hand_on_that_goes_on_to_another_than_home(self):
        body = post("j", "x", give("home", plus(X, X)), post("k", "y", hand("g", name("y"), ONE, to="j"), hand("h", to="k")))
        self.assertEqual(self.run_of(body), ([asked("f"), asked("h"), asked("g", 3, 1), teller(4)], ("done", 8), 1, 2))


class HeightTest(RunsTest):
    def test_the_first_asking_has_none(self):
        self.assertEqual(self.run_of(give("home", ONE))[2:], (0, 0))

    def test_posts_of_one_asking_are_of_one_height(self):
        inner = post("k", "y", give("j", name("y")), hand("h", to="k"))
        self.assertEqual(self.run_of(post("j", "x", give("home", X), inner))[2:], (1, 2))
        after = post("k", "y", give("home", name("y")), hand("h", to="k"))
        self.assertEqual(self.run_of(post("j", "x", after, hand("h", to="j")))[2:], (1, 2))

    def test_heights_of_asks_alone_are_counted(self):
        # A hand-on is made and given to, but no ask is handed it.
        self.assertEqual(self.run_of(post("j", "x", give("home", X), give("j", ONE)))[2:], (0, 1))
        self.assertEqual(self.run_of(post("j", "x", give("home", X), hand("h")))[2:], (0, 1))

    def test_the_greatest_one_is_told(self):
        asks = post("j", "x", post("k", "y", hand("h"), hand("h", to="k")), hand("g", ONE, ONE, to="j"))
        self.assertEqual(self.run_of(asks)[2:], (1, 2))
        self.assertEqual(run_turned(SUM, "sum", (7,), 20)[2:], (7, 7))
        self.assertEqual(run_turned(DOWN, "down", (7,), 20)[2:], (0, 0))

    def test_home_handed_on_is_as_high(self):
        asker = ("f", (), post("j", "x", give("home", X), hand("g", to="j")))
        other = ("g", (), post("k", "y", give("home", name("y")), hand("h")))
        last = ("h", (), give("home", num(1)))
        self.assertEqual(run_turned((asker, other, last), "f", (), 9)[2:], (1, 2))

    def test_all_that_are_made_are_counted(self):
        for body, made in (
            (post("j", "x", give("home", X), post("k", "y", give("j", ONE), give("j", ONE))), 2),
            (post("j", "x", post("k", "y", give("home", ONE), give("k", X)), give("j", ONE)), 2),
            (post("j", "x", post("k", "y", give("home", ONE), give("k", X)), give("home", ONE)), 1),
            (fork(num(0), post("j", "x", give("home", X), give("j", ONE)), give("home", ONE)), 0),
        ):
            self.assertEqual(self.run_of(body)[2:], (0, made))


class MostTest(RunsTest):
    def test_none_at_all(self):
        for turned, f, numbers in ((EVERY_PART, "f", (1, 2)), (SUM, "sum", (3,)), (BENT, "f", ())):
            self.assertEqual(run_turned(turned, f, numbers, 0), ([], ("long",), 0, 0))

    def test_just_enough_and_one_fewer(self):
        trail = [asked("sum", 2), asked("sum", 1), asked("sum", 0)]
        self.assertEqual(run_turned(SUM, "sum", (2,), 4), (trail, ("done", 3), 2, 2))
        self.assertEqual(run_turned(SUM, "sum", (2,), 3), (trail, ("done", 3), 2, 2))
        # The hand-on is made, but the ask beyond the most isn't done.
        self.assertEqual(run_turned(SUM, "sum", (2,), 2), (trail[:2], ("long",), 1, 2))
        self.assertEqual(run_turned(SUM, "sum", (2,), 1), (trail[:1], ("long",), 0, 1))

    def test_what_comes_ahead_of_an_ask_beyond_the_most(self):
        body = told("x", num(4), post("j", "y", told("z", num(6), give("home", ONE)), hand("f", to="j")))
        self.assertEqual(self.run_of(body, most=1), ([asked("f"), teller(4)], ("long",), 0, 1))
        self.assertEqual(self.run_of(body, most=2), ([asked("f"), teller(4)] * 2, ("long",), 1, 2))

    def test_three_thousand(self):
        trail, end, deepest, made = run_turned(SUM, "sum", (999,), 3000)
        self.assertEqual((len(trail), end, deepest, made), (1000, ("done", 500), 999, 999))
        waits = turned_of(post("j", "x", give("home", X), hand("f", to="j")))
        self.assertEqual(run_turned(waits, "f", (), 3000), ([asked("f")] * 3000, ("long",), 2999, 3000))
        self.assertEqual(run_turned(turned_of(hand("f")), "f", (), 3000), ([asked("f")] * 3000, ("long",), 0, 0))
        self.assertEqual(len(run_turned(turned_of(hand("f")), "f", (), 2999)[0]), 2999)

    def test_thousands_of_hand_ons_within_one_another(self):
        # f makes twenty at each asking, each of which goes on to the one around it.
        body = fork(N, hand("g", N, to=letters(19)), give(letters(19), ONE))
        for k in reversed(range(20)):
            to = letters(k - 1) if k else "home"
            body = post(letters(k), letters(k), give(to, plus(name(letters(k)), ONE)), body)
        turned = (("f", ("n",), body), ("g", ("a",), hand("f", less(name("a"), ONE))))
        self.assertTrue(is_turned(turned))
        trail, end, deepest, made = run_turned(turned, "f", (999,), 3000)
        self.assertEqual((len(trail), end, deepest, made), (1999, ("done", 1), 999, 20000))

    def test_gone_back_through_thousands(self):
        turned = (
            ("f", ("n",), fork(N, post("j", "x", hand("f", less(N, ONE)), hand("g", N, to="j")), give("home", ONE))),
            ("g", ("n",), fork(N, post("j", "x", give("home", plus(X, ONE)), hand("g", less(N, ONE), to="j")), give("home", ONE))),
        )
        trail, end, deepest, made = run_turned(turned, "f", (70,), 3000)
        self.assertEqual((len(trail), end, deepest, made), (71 + sum(range(2, 72)), ("done", 1), 71, 70 + sum(range(71))))


class TurnedRefusalsTest(Refusals, unittest.TestCase):
    book = (("f", ("n", "m"), give("home", plus(N, M))), ("g", (), give("home", ONE)))

    def runs(self, f, numbers, most):
        return run_turned(self.book, f, numbers, most)


class ToldTest(unittest.TestCase):
    def test_the_trail_emptied_and_asked_again(self):
        first = run_turned(EVERY_PART, "f", (1, 2), 9)
        kept = copy.deepcopy(first)
        self.assertEqual(kept, ([asked("f", 1, 2), asked("g", 1, 5), asked("h"), teller(8)], ("done", 8), 1, 1))
        first[0].clear()
        self.assertEqual(run_turned(EVERY_PART, "f", (1, 2), 9), kept)

    def test_kinds(self):
        trail, end, deepest, made = run_turned(SUM, "sum", (2,), 9)
        self.assertIsInstance(trail, list)
        for row in trail:
            self.assertIsInstance(row, tuple)
            self.assertIsInstance(row[2], tuple)
        self.assertIsInstance(end, tuple)
        for number in (deepest, made):
            self.assertIs(int, number.__class__)

    def test_more_parts_within_one_another_than_a_turned_book_has(self):
        part = give("home", ONE)
        for k in range(1500):
            part = told(letters(k), ONE, part)
        self.assertEqual(run_turned(turned_of(part), "f", (), 1)[0], [asked("f")] + [teller(1)] * 1500)
        sums = ONE
        for k in range(1500):
            sums = plus(sums, ONE)
        self.assertEqual(run_turned(turned_of(give("home", sums)), "f", (), 1)[1], ("done", 501))


class ByReferenceTest(unittest.TestCase):
    def test_many_turned_books(self):
        ends = {"done": 0, "long": 0}
        waited = 0
        for seed in range(1500):
            maker = TurnedMaker(seed)
            book = maker.book()
            f, numbers = maker.asking()
            for most in (0, 1, 2, 3, 7, 20):
                expected = run_turned_reference(book, f, numbers, most)
                self.assertEqual(run_turned(book, f, numbers, most), expected, (seed, most))
            ends[expected[1][0]] += 1
            waited += expected[2] > 1
        # The comparison is worth something only where much is shown by it.
        self.assertGreater(ends["done"], 200)
        self.assertGreater(ends["long"], 200)
        self.assertGreater(waited, 200)


if __name__ == "__main__":
    unittest.main()
