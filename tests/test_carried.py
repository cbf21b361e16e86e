import copy
import unittest

from tests.carried_reference import carried_reference, hindered
from tests.makers import BookMaker, TurnedMaker
from tests.terms import less, name, num, plus
from tests.turned_terms import HOME, fork, give, hand, held, post, told, turned_of
from tests.turning_reference import anew_reference
from whatnext.anew import are_alike
from whatnext.back import back
from whatnext.carried import carried, not_carried_at
from whatnext.errors import NextError, NoAsking, NoCarry, TooGreat
from whatnext.laid import is_laid, laid
from whatnext.runs import run
from whatnext.slim import slim
from whatnext.turnedbooks import is_turned, posts_met, rest_of, words_met
from whatnext.turnedruns import run_turned
from whatnext.turning import turn_book
from whatnext.walks import met

ONE, TWO, NOUGHT = num(1), num(2), num(0)
A, C, X, Y = name("a"), name("c"), name("x"), name("y")
OTHERS = (("g", ("n",), told("m", name("n"), give("home", name("m")))), ("h", (), give("home", num(3))))


def book_with(body):
    """A laid book of f, which has one name, a, and of g, of one name, and h, of none."""
    return (*turned_of(body, "a"), *OTHERS)


def adding(term, j="j", x="x"):
    """An ask of f with a less 1 that hands on a post whose T gives the term home."""
    return post(j, x, give("home", term), hand("f", less(A, ONE), to=j))


# The sum of all numbers down from a.
SUM = (("f", ("a",), fork(A, adding(plus(X, A)), give("home", NOUGHT))), *OTHERS)


class NotCarriedAtTest(unittest.TestCase):
    def tells(self, body, place, *others):
        turned = (*book_with(body), *others)
        self.assertIs(is_turned(turned), True)
        self.assertIs(is_laid(turned), True)
        self.assertEqual(not_carried_at(turned, "f"), place)
        self.assertEqual(not_carried_at(turned[::-1], "f"), place)
        if place is None:
            self.assertIs(is_laid(carried(turned, "f")), True)
            return
        with self.assertRaises(NoCarry) as caught:
            carried(turned, "f")
        self.assertEqual(caught.exception.place, place)
        self.assertIsInstance(caught.exception, NextError)

    def test_no_asks_of_f(self):
        self.tells(HOME, None)
        self.tells(hand("h"), None)

    def test_asks_that_hand_on_home(self):
        self.tells(hand("f", A), None)
        self.tells(told("x", A, fork(A, hand("f", X), held("y", X, hand("f", Y)))), None)

    def test_sums_in_which_x_stands_once(self):
        for term in (
            X,
            plus(X, A),
            plus(A, X),
            plus(X, NOUGHT),
            less(X, A),
            less(less(X, A), plus(A, A)),
            plus(ONE, plus(less(plus(X, A), ONE), A)),
            plus(less(A, ONE), X),
        ):
            self.tells(adding(term), None)

    def test_x_in_a_second_part_of_a_less(self):
        for term in (
            less(A, X),
            less(ONE, plus(X, A)),
            less(ONE, plus(A, less(X, A))),
            plus(A, less(A, X)),
            less(less(A, X), ONE),
            less(A, less(A, X)),
            less(A, less(X, A)),
        ):
            self.tells(adding(term), ("f", 1))

    def test_x_twice_or_in_no_place(self):
        for term in (plus(X, X), less(X, X), plus(plus(X, ONE), X), plus(X, plus(X, X)), A, NOUGHT, plus(A, A), less(A, ONE)):
            self.tells(adding(term), ("f", 1))

    def test_a_t_that_is_no_give(self):
        for then in (
            told("y", X, give("home", Y)),
            held("y", X, give("home", Y)),
            fork(A, give("home", X), give("home", X)),
            hand("f", X),
            hand("g", X),
            post("k", "y", give("home", plus(X, Y)), hand("h", to="k")),
            adding(plus(Y, X), "k", "y"),
        ):
            self.tells(post("j", "x", then, hand("f", A, to="j")), ("f", 1))

    def test_asks_of_another_errand(self):
        for then in (give("home", X), give("home", less(A, X)), give("home", plus(X, X)), told("y", X, HOME), hand("f", X)):
            self.tells(post("j", "x", then, hand("g", A, to="j")), None)
            self.tells(post("j", "x", then, hand("h", to="j")), None)

    def test_asks_of_f_in_other_errands(self):
        for body in (hand("f", ONE), post("j", "x", give("home", less(ONE, X)), hand("f", ONE, to="j")), post("j", "x", told("y", X, HOME), hand("f", ONE, to="j"))):
            self.tells(HOME, None, ("i", (), body))
            self.tells(adding(plus(X, ONE)), None, ("i", (), body))
            self.tells(adding(less(ONE, X)), ("f", 1), ("i", (), body))

    def test_where_it_stands(self):
        bad = adding(less(A, X))
        self.tells(told("y", plus(A, A), bad), ("f", 1, 1))
        self.tells(held("y", A, bad), ("f", 1, 1))
        self.tells(fork(A, bad, HOME), ("f", 1, 1))
        self.tells(fork(A, HOME, bad), ("f", 2, 1))
        self.tells(post("k", "y", bad, hand("h", to="k")), ("f", 0, 1))

    def test_the_least_place(self):
        bad, bad_too, good = adding(less(A, X)), adding(plus(Y, Y), "k", "y"), adding(plus(name("z"), A), "i", "z")
        self.tells(fork(A, bad, bad_too), ("f", 1, 1))
        self.tells(fork(A, good, fork(A, bad_too, bad)), ("f", 2, 1, 1))
        self.tells(fork(A, good, fork(A, hand("f", A), bad)), ("f", 2, 2, 1))
        # One in T of another one, which comes ahead of the ask of that.
        self.tells(post("j", "x", told("v", X, bad_too), hand("f", A, to="j")), ("f", 0, 1, 1))
        self.tells(post("j", "x", told("v", X, good), hand("f", A, to="j")), ("f", 1))
        self.tells(post("j", "x", fork(A, good, bad_too), hand("g", A, to="j")), ("f", 0, 2, 1))

    def test_no_asking(self):
        for turned in (SUM, book_with(adding(less(A, X)))):
            for f in ("z", "", "home", "F", None):
                for told_of in (not_carried_at, carried):
                    with self.subTest(f=f), self.assertRaises(NoAsking) as caught:
                        told_of(turned, f)
                    self.assertIsInstance(caught.exception, NextError)


class CarriedTest(unittest.TestCase):
    def carried(self, body, expected, *names):
        """Just what is told of f, c being the name more and p, q, r the words of new posts."""
        turned = book_with(body)
        self.assertIs(is_turned(turned), True)
        self.assertIs(is_laid(turned), True)
        got = carried(turned, "f")
        self.assertEqual(anew_reference(got), anew_reference((("f", ("a", "c"), expected), *OTHERS)))
        self.assertEqual(anew_reference(got), anew_reference(carried_reference(turned, "f")))
        self.sound(turned, got, "f")
        self.same_runs(turned, got, "f", [(0,), (1,), (2,), (5,)])

    def sound(self, turned, got, f):
        self.assertIs(is_laid(got), True)
        self.assertIsNone(not_carried_at(got, f))
        for (name_of, names, body), (other, more, changed) in zip(turned, got):
            self.assertEqual(name_of, other)
            self.assertEqual(more[: len(names)], names)
            self.assertEqual(len(more) - len(names), name_of == f)
            words, hands = words_met(more, changed), posts_met(changed)
            self.assertEqual(len(set(words)), len(words))
            self.assertEqual(len(set(hands)), len(hands))
            asks = [part for part in met(changed, rest_of) if part[0] == "ask" and part[1] == f]
            self.assertTrue(name_of != f or all(part[3] == "home" for part in asks))

    def same_runs(self, turned, got, f, askings, g=None):
        """By runs, g asked, f itself where none is told."""
        for numbers in askings:
            for most in (1, 2, 4, 30):
                trail, end, deepest, made = run_turned(turned, g or f, numbers, most)
                other = run_turned(got, g or f, numbers if g and g != f else (*numbers, 0), most)
                self.assertEqual([without_last(one, f) for one in other[0]], trail)
                self.assertEqual(other[1], end)

    def test_gives(self):
        self.carried(give("home", A), give("home", plus(A, C)))
        self.carried(give("home", less(A, ONE)), give("home", plus(less(A, ONE), C)))
        self.carried(
            fork(A, told("x", A, give("home", X)), held("y", TWO, give("home", Y))),
            fork(A, told("x", A, give("home", plus(X, C))), held("y", TWO, give("home", plus(Y, C)))),
        )

    def test_asks_of_f_that_hand_on_home(self):
        self.carried(
            fork(A, told("x", A, hand("f", less(X, ONE))), give("home", ONE)),
            fork(A, told("x", A, hand("f", less(X, ONE), C)), give("home", plus(ONE, C))),
        )

    def test_asks_of_f_that_hand_on_a_post(self):
        for term, rest in (
            (X, NOUGHT),
            (plus(X, A), plus(NOUGHT, A)),
            (plus(A, X), plus(A, NOUGHT)),
            (less(X, A), less(NOUGHT, A)),
            (plus(less(plus(TWO, X), A), ONE), plus(less(plus(TWO, NOUGHT), A), ONE)),
        ):
            self.carried(
                fork(A, adding(term), give("home", ONE)),
                fork(A, hand("f", less(A, ONE), plus(C, rest)), give("home", plus(ONE, C))),
            )

    def test_words_around_a_post_that_is_left_out(self):
        self.carried(
            fork(A, told("y", plus(A, A), adding(plus(Y, X))), give("home", ONE)),
            fork(A, told("y", plus(A, A), hand("f", less(A, ONE), plus(C, plus(Y, NOUGHT)))), give("home", plus(ONE, C))),
        )

    def test_asks_of_another_errand_that_hand_on_home(self):
        new = give("home", plus(name("p"), C))
        self.carried(hand("g", A), post("p", "p", new, hand("g", A, to="p")))
        self.carried(hand("h"), post("p", "p", new, hand("h", to="p")))
        self.carried(
            fork(A, hand("g", A), hand("h")),
            fork(A, post("p", "p", new, hand("g", A, to="p")), post("q", "q", give("home", plus(name("q"), C)), hand("h", to="q"))),
        )

    def test_asks_of_another_errand_that_hand_on_a_post(self):
        self.carried(
            post("j", "x", give("home", plus(X, A)), hand("g", A, to="j")),
            post("j", "x", give("home", plus(plus(X, A), C)), hand("g", A, to="j")),
        )
        self.carried(
            post("j", "x", give("home", less(A, X)), hand("h", to="j")),
            post("j", "x", give("home", plus(less(A, X), C)), hand("h", to="j")),
        )

    def test_within_t_of_another_errands_post(self):
        self.carried(
            fork(A, post("j", "x", told("v", X, adding(plus(Y, X), "k", "y")), hand("g", A, to="j")), give("home", ONE)),
            fork(A, post("j", "x", told("v", X, hand("f", less(A, ONE), plus(C, plus(NOUGHT, X)))), hand("g", A, to="j")), give("home", plus(ONE, C))),
        )
        self.carried(
            fork(A, post("j", "x", fork(X, hand("h"), hand("f", less(A, ONE))), hand("g", A, to="j")), HOME),
            fork(
                A,
                post("j", "x", fork(X, post("p", "p", give("home", plus(name("p"), C)), hand("h", to="p")), hand("f", less(A, ONE), C)), hand("g", A, to="j")),
                give("home", plus(ONE, C)),
            ),
        )

    def test_f_asked_in_other_errands(self):
        turned = (
            ("g", ("n",), post("j", "x", give("home", less(ONE, X)), hand("f", name("n"), to="j"))),
            *turned_of(fork(A, adding(plus(X, A)), hand("g", A)), "a"),
            ("h", (), fork(ONE, hand("f", TWO), post("k", "y", told("z", Y, hand("f", Y)), hand("h", to="k")))),
        )
        expected = (
            ("g", ("n",), post("j", "x", give("home", less(ONE, X)), hand("f", name("n"), NOUGHT, to="j"))),
            ("f", ("a", "c"), fork(A, hand("f", less(A, ONE), plus(C, plus(NOUGHT, A))), post("p", "p", give("home", plus(name("p"), C)), hand("g", A, to="p")))),
            ("h", (), fork(ONE, hand("f", TWO, NOUGHT), post("k", "y", told("z", Y, hand("f", Y, NOUGHT)), hand("h", to="k")))),
        )
        got = carried(turned, "f")
        self.assertEqual(anew_reference(got), anew_reference(expected))
        self.sound(turned, got, "f")
        for f, numbers in (("f", (3,)), ("g", (3,)), ("h", ())):
            self.same_runs(turned, got, "f", [numbers], f)

    def test_an_errand_that_asks_none(self):
        turned = (*turned_of(hand("g", ONE)), *OTHERS)
        got = carried(turned, "h")
        self.assertEqual(anew_reference(got), anew_reference((turned[0], turned[1], ("h", ("c",), give("home", plus(num(3), C))))))
        got = carried(turned, "g")
        self.assertEqual(got[0][2], hand("g", ONE, NOUGHT))

    def test_four_names_already(self):
        names = ("a", "b", "d", "e")
        down = [less(A, ONE), name("b"), name("d"), name("e")]
        body = fork(A, post("j", "x", give("home", plus(X, name("e"))), hand("f", *down, to="j")), give("home", name("b")))
        turned = (("f", names, body),)
        got = carried(turned, "f")
        self.assertEqual(len(got[0][1]), 5)
        self.same_runs(turned, got, "f", [(0, 1, 2, 3), (4, 1, 2, 3)])
        self.assertEqual(run_turned(got, "f", (2, 1, 0, 3, 0), 9)[1], ("done", 7))

    def test_words_that_are_those_of_errands(self):
        own = fork(A, post("f", "g", give("home", plus(name("g"), A)), hand("f", less(A, ONE), to="f")), told("f", A, hand("g", name("f"))))
        carried_own = fork(
            A,
            hand("f", less(A, ONE), plus(C, plus(NOUGHT, A))),
            told("f", A, post("p", "p", give("home", plus(name("p"), C)), hand("g", name("f"), to="p"))),
        )
        self.carried(own, carried_own)
        self.carried(held("f", A, give("home", name("f"))), held("f", A, give("home", plus(name("f"), C))))
        self.carried(told("f", A, HOME), told("f", A, give("home", plus(ONE, C))))
        self.carried(post("f", "x", give("home", X), hand("h", to="f")), post("f", "x", give("home", plus(X, C)), hand("h", to="f")))
        for make in (told, held):
            turned = (*SUM, ("i", ("n",), make("f", name("n"), post("i", "j", give("home", name("f")), hand("f", name("f"), to="i")))))
            got = carried(turned, "f")
            expected = make("f", name("n"), post("i", "j", give("home", name("f")), hand("f", name("f"), NOUGHT, to="i")))
            self.assertEqual(got[-1], ("i", ("n",), expected))

    def test_new_words_are_unlike_all_others(self):
        own = ["aq", "bq", "cq", "dq"]
        for a, x, j in ((a, x, j) for a in own for x in own for j in own if a != x):
            body = fork(name(a), post(j, x, give("home", name(x)), hand("g", name(a), to=j)), fork(name(a), hand("g", ONE), hand("h")))
            turned = (("f", (a,), body), *OTHERS)
            got = carried(turned, "f")
            self.assertIs(is_turned(got), True)
            taken = set(words_met((a,), body)) | set(posts_met(body))
            new = [word for word in words_met(got[0][1], got[0][2]) if word not in (a, x)]
            made = [word for word in posts_met(got[0][2]) if word != j]
            self.assertEqual(len(new), 3)
            self.assertEqual(len(made), 2)
            self.assertFalse(taken & set(new + made))
            self.same_runs(turned, got, "f", [(0,), (1,)])

    def test_none_waits_at_asks_of_f_in_f(self):
        got = carried(SUM, "f")
        for n in (0, 1, 7, 100):
            self.assertEqual(run_turned(SUM, "f", (n,), 3000)[1:], (("done", n * (n + 1) // 2 % 1000), n, n))
            trail, end, deepest, made = run_turned(got, "f", (n, 0), 3000)
            self.assertEqual((end, deepest, made), (("done", n * (n + 1) // 2 % 1000), 0, 0))
        self.assertEqual(run_turned(got, "f", (3, 5), 9)[0], [("ask", "f", one) for one in ((3, 5), (2, 8), (1, 10), (0, 11))])
        self.assertEqual(run(back(got), "f", (3, 0), 9)[1:], (("done", 6), 0, 0))

    def test_a_start_beyond_nought_is_added(self):
        self.assertEqual(run_turned(carried(SUM, "f"), "f", (4, 100), 9)[1], ("done", 110))

    def test_carried_twice(self):
        once = carried(SUM, "f")
        twice = carried(once, "f")
        self.assertEqual(len(twice[0][1]), 3)
        self.sound(once, twice, "f")
        self.same_runs(once, twice, "f", [(0, 0), (4, 0), (4, 9)])
        self.same_runs(carried(SUM, "f"), carried(once, "g"), "g", [(4, 0)], "f")
        self.assertEqual(anew_reference(twice), anew_reference(carried_reference(once, "f")))

    def test_nothing_is_changed(self):
        before = copy.deepcopy(SUM)
        carried(SUM, "f")
        not_carried_at(SUM, "f")
        self.assertEqual(SUM, before)

    def test_by_reference_and_by_runs(self):
        seen = {"carried": 0, "hindered": 0, "fewer": 0}
        for seed in range(1500):
            maker = (BookMaker if seed % 2 else AddingMaker)(seed, 14)
            turned = maker.book()
            try:
                turned = laid(turn_book(turned) if seed % 2 else turned)
            except TooGreat:
                continue
            f = maker.asking()[0]
            places = hindered(turned, f)
            self.assertEqual(not_carried_at(turned, f), places[0] if places else None)
            if places:
                seen["hindered"] += 1
                with self.assertRaises(NoCarry) as caught:
                    carried(turned, f)
                self.assertEqual(caught.exception.place, places[0])
                continue
            got = carried(turned, f)
            self.assertEqual(anew_reference(got), anew_reference(carried_reference(turned, f)))
            self.sound(turned, got, f)
            self.assertTrue(are_alike(slim(got), slim(laid(got))))
            g, numbers = maker.asking()
            self.same_runs(turned, got, f, [numbers], g)
            seen["carried"] += any(part[1] == f for part in met(dict((e[0], e[2]) for e in turned)[f], rest_of) if part[0] == "ask")
            seen["fewer"] += run_turned(turned, g, numbers, 30)[2] > run_turned(got, g, (*numbers, *([0] * (g == f))), 30)[2]
        self.assertGreater(min(seen.values()), 60)


def without_last(one, f):
    """What is told in a trail, an ask of f with a number fewer."""
    return (*one[:2], one[2][:-1]) if one[:2] == ("ask", f) else one


class AddingMaker(TurnedMaker):
    """Makes many asks that only add something up."""

    def part(self, words, hands, within):
        if self.rest < 3 or self.chance.random() < 0.3:
            return super().part(words, hands, within)
        self.rest -= 4
        j, x = next(self.hands), next(self.words)
        term = name(x)
        for _ in range(self.chance.randint(0, 2)):
            other = self.simple(words)
            term = self.chance.choice([plus(term, other), plus(other, term), less(term, other)])
        f = self.chance.choice(sorted(self.errands))
        asked = post(j, x, give("home", term), hand(f, *[self.simple(words) for _ in range(self.errands[f])], to=j))
        return fork(self.simple(words), asked, self.part(words, hands, within + 1))


if __name__ == "__main__":
    unittest.main()
