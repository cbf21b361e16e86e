import copy
import time
import unittest

from tests.makers import BookMaker, TurnedMaker
from tests.stands_reference import gone_on_reference
from tests.terms import less, name, num, plus
from tests.turned_terms import HOME, fork, give, hand, held, post, told, turned_of
from whatnext.errors import NextError, NoAsking, NoMost
from whatnext.rounds import gone_on
from whatnext.turnedbooks import is_turned
from whatnext.turnedruns import run_turned
from whatnext.turning import turn_book

ONE, TWO = num(1), num(2)
N, X, Y = name("n"), name("x"), name("y")

# Counts n down, handing on home, and then gives 5.
DOWN = (("down", ("n",), fork(N, hand("down", less(N, ONE)), give("home", num(5)))),)
# Counts n up by 1 without end, so that it comes again after 1000.
UP = (("up", ("n",), hand("up", plus(N, ONE))),)
# Counts n down with a hand-on more at each ask, and then gives back through all.
SUM = (
    (
        "sum",
        ("n",),
        fork(N, post("j", "x", give("home", plus(N, X)), hand("sum", less(N, ONE), to="j")), give("home", num(0))),
    ),
)
# A hand-on more at each ask, without end.
MORE = turned_of(post("j", "x", give("home", X), hand("f", to="j")))


def twice(by_first):
    """Counts n down; each hand-on holds the one ahead of it, itself and by another that holds it."""
    t = fork(X, give("i", X), give("home", X))
    inner = post("k", "x", t, fork(N, hand("f", less(N, ONE), to="k"), give("k", ONE)))
    if by_first:
        # home stands in i's T alone ahead of it.
        inner = post("k", "x", fork(X, give("a", X), give("home", X)), fork(N, hand("f", less(N, ONE), to="k"), give("k", ONE)))
        return turned_of(post("a", "y", give("home", plus(Y, ONE)), inner), "n")
    return turned_of(post("i", "y", give("home", plus(Y, ONE)), inner), "n")


class GoneOnTest(unittest.TestCase):
    def tells(self, turned, f, numbers, most, *expected):
        self.assertIs(is_turned(turned), True)
        got = gone_on(turned, f, numbers, most)
        self.assertEqual(got, expected)
        self.assertIs(type(got), tuple)

    def shown_just_at(self, turned, f, numbers, many, *expected):
        """So many stands are needed to show it."""
        for most in (many, many + 1, many + 7, 2000):
            self.tells(turned, f, numbers, most, *expected)
        for most in (1, many // 2, many - 1):
            self.tells(turned, f, numbers, most, "on")

    def test_done(self):
        self.shown_just_at(turned_of(HOME), "f", (), 2, "done", 1, 1)
        for n in (0, 1, 2, 60, 900):
            self.shown_just_at(DOWN, "down", (n,), n + 2, "done", 5, n + 1)

    def test_done_behind_hand_ons(self):
        # Asked with 3: sum 3, 2, 1, 0, then 0 given to three hand-ons and the end.
        self.shown_just_at(SUM, "sum", (3,), 8, "done", 6, 7)
        self.shown_just_at(SUM, "sum", (60,), 122, "done", 1830 % 1000, 121)

    def test_what_is_told_on_the_way_makes_no_stands(self):
        turned = turned_of(told("x", ONE, held("y", X, told("z", Y, give("home", plus(Y, name("z")))))))
        self.shown_just_at(turned, "f", (), 2, "done", 2, 1)

    def test_a_round_from_the_first_stand_on(self):
        self.shown_just_at(turned_of(hand("f")), "f", (), 2, "round", 0, 1)
        turned = (("f", (), hand("g")), ("g", (), hand("h")), ("h", (), hand("f")))
        for f in "fgh":
            self.shown_just_at(turned, f, (), 4, "round", 0, 3)
        for n in (0, 1, 999):
            self.shown_just_at(UP, "up", (n,), 1001, "round", 0, 1000)

    def test_a_round_with_a_stem(self):
        turned = (("f", ("n",), fork(N, hand("f", less(N, ONE)), hand("g"))), ("g", (), hand("h")), ("h", (), hand("g")))
        for n in (0, 1, 5, 400):
            self.shown_just_at(turned, "f", (n,), n + 4, "round", n + 1, 2)

    def test_a_round_by_hand_ons(self):
        # The hand-on is given to and made again: ask f, ask g with it, give, ask f.
        turned = (("f", (), post("j", "x", hand("f"), hand("g", to="j"))), ("g", (), HOME))
        self.shown_just_at(turned, "f", (), 4, "round", 0, 3)
        # The same behind a hand-on that stays.
        turned = (*turned, ("e", (), post("j", "x", HOME, hand("f", to="j"))))
        self.shown_just_at(turned, "e", (), 5, "round", 1, 3)

    def test_the_least_ring(self):
        # The same errands come again ahead of the same stands.
        turned = (("f", ("n",), hand("g", less(ONE, N))), ("g", ("n",), hand("f", N)))
        self.shown_just_at(turned, "f", (0,), 5, "round", 0, 4)
        turned = (("f", ("n",), hand("g", num(3))), ("g", ("n",), hand("f", N)))
        self.shown_just_at(turned, "f", (3,), 3, "round", 0, 2)
        self.shown_just_at(turned, "f", (4,), 4, "round", 1, 2)

    def test_a_number_more_is_another_stand(self):
        turned = turned_of(fork(N, hand("f", less(N, ONE), num(7)), hand("f", ONE, name("m"))), "n", "m")
        self.shown_just_at(turned, "f", (1, 0), 4, "round", 1, 2)

    def test_another_number_within_a_hand_on_is_another_stand(self):
        # The ask of g is the same but for the hand-on's own number.
        t = fork(N, hand("f", less(N, ONE)), hand("f", N))
        turned = (("f", ("n",), post("j", "x", t, hand("g", to="j"))), ("g", (), HOME))
        self.shown_just_at(turned, "f", (2,), 10, "round", 6, 3)

    def test_deep(self):
        # Stand k has k hand-ons within one another.
        self.shown_just_at(MORE, "f", (), 62, "deep", 61)
        turned = (*MORE, ("g", ("n",), fork(N, hand("g", less(N, ONE)), hand("f"))))
        self.shown_just_at(turned, "g", (10,), 73, "deep", 72)

    def test_sixty_are_not_too_deep(self):
        self.shown_just_at(SUM, "sum", (60,), 122, "done", 830, 121)
        self.shown_just_at(SUM, "sum", (61,), 62, "deep", 61)

    def test_deep_by_hand_ons_made_in_one_asking(self):
        # Stand 1 asks f with two more, the one within the other.
        body = post("j", "x", give("home", plus(X, ONE)), post("k", "y", give("j", Y), fork(N, hand("f", less(N, ONE), to="k"), give("k", N))))
        turned = turned_of(body, "n")
        # Behind the ask of f with 0 two more are made: sixty-two, or just sixty.
        self.shown_just_at(turned, "f", (30,), 32, "deep", 31)
        self.shown_just_at(turned, "f", (29,), 91, "done", 30, 90)

    def test_deep_is_asked_ahead_of_coming_again(self):
        # Once deep, a stand behind it would come again; the deep one is told, being the first.
        turned = turned_of(
            fork(N, post("j", "x", give("home", X), hand("f", less(N, ONE), to="j")), hand("f", num(0))), "n"
        )
        self.shown_just_at(turned, "f", (60,), 62, "round", 60, 1)
        self.shown_just_at(turned, "f", (61,), 62, "deep", 61)
        self.shown_just_at(turned, "f", (0,), 2, "round", 0, 1)

    def test_most_one_shows_just_the_first_stand(self):
        for turned, f, numbers in ((turned_of(HOME), "f", ()), (turned_of(hand("f")), "f", ()), (MORE, "f", ()), (DOWN, "down", (7,))):
            self.tells(turned, f, numbers, 1, "on")

    def test_two_thousand(self):
        # Counts n up to 999 and m up, too, so that it comes again only after many more.
        turned = turned_of(fork(N, hand("f", plus(N, ONE), name("m")), hand("f", ONE, plus(name("m"), ONE))), "n", "m")
        self.tells(turned, "f", (0, 0), 2000, "on")
        turned = (("f", ("n",), fork(N, hand("f", plus(N, ONE)), hand("g", ONE))), ("g", ("n",), fork(N, hand("g", plus(N, ONE)), HOME)))
        self.tells(turned, "f", (4,), 1998, "done", 1, 1997)
        self.tells(turned, "f", (2,), 2000, "done", 1, 1999)
        self.tells(turned, "f", (2,), 1999, "on")
        self.tells(turned, "f", (1,), 2000, "on")

    def test_hand_ons_that_hold_the_one_ahead_of_them_twice(self):
        for by_first in (True, False):
            turned = twice(by_first)
            begun = time.process_time()
            # Each asking makes two hand-ons, the one within the other.
            self.shown_just_at(turned, "f", (200,), 32, "deep", 31)
            self.shown_just_at(turned, "f", (29,), 91, "done", 31, 90)
            self.assertLess(time.process_time() - begun, 5)

    def test_the_one_ahead_twice_in_a_round(self):
        """Sixty deep, and then it comes again."""
        for by_first in (True, False):
            (f, names, body), = twice(by_first)
            turned = ((f, names, fork(N, body, hand("up", num(0)))), *UP)
            begun = time.process_time()
            self.shown_just_at(turned, "f", (30,), 1032, "round", 31, 1000)
            self.assertLess(time.process_time() - begun, 5)

    def test_no_asking(self):
        for f, numbers in (("h", ()), ("", ()), ("home", ()), ("down", ()), ("down", (1, 2)), ("DOWN", (1,)), (None, ()), ("down", [1]), ("down", (True,))):
            with self.subTest(f=f, numbers=numbers), self.assertRaises(NoAsking) as caught:
                gone_on(DOWN, f, numbers, 5)
            self.assertIsInstance(caught.exception, NextError)

    def test_no_most(self):
        for most in (0, -1, -2000, 2001, 3000, 10**30, True, False, None):
            with self.subTest(most=most), self.assertRaises(NoMost) as caught:
                gone_on(DOWN, "down", (3,), most)
            self.assertIsInstance(caught.exception, NextError)

    def test_no_asking_goes_ahead_of_no_most(self):
        for f, numbers in (("h", ()), ("down", ())):
            for most in (0, 2001, -1, 10**30):
                with self.subTest(f=f, most=most), self.assertRaises(NoAsking):
                    gone_on(DOWN, f, numbers, most)

    def test_nothing_is_changed_and_nothing_kept(self):
        before = copy.deepcopy(SUM)
        first = gone_on(SUM, "sum", (9,), 100)
        self.assertEqual(gone_on(SUM, "sum", (9,), 100), first)
        self.assertEqual(SUM, before)

    def test_by_reference_and_by_runs(self):
        ends = {"done": 0, "round": 0, "deep": 0, "on": 0}
        for seed in range(900):
            maker = (BookMaker if seed % 3 == 0 else TurnedMaker)(seed, 14)
            turned = maker.book()
            turned = turn_book(turned) if seed % 3 == 0 else turned
            f, numbers = maker.asking()
            for most in (1, 2, 5, 80):
                expected = gone_on_reference(turned, f, numbers, most)
                got = gone_on(turned, f, numbers, most)
                if expected is None:
                    continue
                self.assertEqual(got, expected)
            ends[got[0]] += 1
            end = run_turned(turned, f, numbers, 200)[1]
            if got[0] == "done":
                self.assertEqual(end, ("done", got[1]))
            if got[0] == "round":
                self.assertEqual(end, ("long",))
        self.assertGreater(min(ends["done"], ends["round"], ends["deep"]), 50)


if __name__ == "__main__":
    unittest.main()
