import copy
import unittest

from tests.makers import BookMaker
from tests.terms import EVERY_SORT, ask, book_of, broad, chain, less, let, name, num, plus, tell, when
from tests.turned_terms import fork, give, hand, held, post, told, turned_of
from tests.turning_reference import anew_reference, turn_reference
from whatnext.books import need_book, why_no_book
from whatnext.runs import run
from whatnext.turnedbooks import is_turned
from whatnext.turnedruns import run_turned
from whatnext.turning import turn_book

ONE, TWO, THREE = num(1), num(2), num(3)
A, B, N, V, W, X, Y = [name(x) for x in ("a", "b", "n", "v", "w", "x", "y")]
SUM = plus(A, less(B, ONE))


def home(term):
    return give("home", term)


class RulesTest(unittest.TestCase):
    def turned(self, body, expected):
        """The body of f, asked with a and b; g takes one number, and h none."""
        others = (("g", ("c",), name("c")), ("h", (), ONE))
        book = (*book_of(body, "a", "b"), *others)
        need_book(book)
        rest = (("g", ("c",), home(name("c"))), ("h", (), home(ONE)))
        got = turn_book(book)
        self.assertEqual(anew_reference(got), anew_reference((*turned_of(expected, "a", "b"), *rest)))
        self.assertIs(is_turned(got), True)
        self.assertEqual([errand[:2] for errand in got], [errand[:2] for errand in book])


class DoneTest(RulesTest):
    def test_a_simple_body(self):
        for body in (ONE, A, SUM, less(plus(A, B), ONE)):
            self.turned(body, home(body))

    def test_plus_and_less(self):
        for make in (plus, less):
            self.turned(make(tell(A), B), told("x", A, home(make(X, B))))
            self.turned(make(A, tell(B)), told("x", B, home(make(A, X))))
            self.turned(make(tell(A), tell(B)), told("x", A, told("y", B, home(make(X, Y)))))

    def test_tell(self):
        self.turned(tell(SUM), told("x", SUM, home(X)))
        self.turned(tell(tell(A)), told("x", A, told("y", X, home(Y))))

    def test_ask(self):
        self.turned(ask("h"), hand("h"))
        self.turned(ask("g", SUM), hand("g", SUM))
        self.turned(ask("f", tell(A), B), told("x", A, hand("f", X, B)))
        self.turned(ask("f", A, tell(B)), told("x", B, hand("f", A, X)))

    def test_if(self):
        self.turned(when(SUM, A, B), fork(SUM, home(A), home(B)))
        self.turned(when(tell(A), ONE, TWO), told("x", A, fork(X, home(ONE), home(TWO))))
        self.turned(when(A, tell(B), ask("h")), fork(A, told("x", B, home(X)), hand("h")))
        self.turned(when(A, when(B, ONE, TWO), THREE), fork(A, fork(B, home(ONE), home(TWO)), home(THREE)))

    def test_let(self):
        self.turned(let("x", SUM, plus(X, X)), held("x", SUM, home(plus(X, X))))
        self.turned(let("x", tell(A), X), told("x", A, home(X)))
        self.turned(let("x", A, ask("g", X)), held("x", A, hand("g", X)))
        self.turned(let("x", A, when(X, ONE, TWO)), held("x", A, fork(X, home(ONE), home(TWO))))
        self.turned(let("x", A, tell(X)), held("x", A, told("y", X, home(Y))))

    def test_done_to_a_post(self):
        # B and C of an if that is put under a word are done to the post's j.
        def around(b, c):
            return tell(when(A, b, c))

        def to(part, other):
            return post("j", "x", told("y", X, home(Y)), fork(A, part, other))

        one = give("j", ONE)
        self.turned(around(ONE, B), to(one, give("j", B)))
        self.turned(around(plus(tell(A), B), ONE), to(told("v", A, give("j", plus(V, B))), one))
        self.turned(around(tell(A), ONE), to(told("v", A, give("j", V)), one))
        self.turned(around(ONE, ask("h")), to(one, hand("h", to="j")))
        self.turned(around(ask("g", tell(A)), ONE), to(told("v", A, hand("g", V, to="j")), one))
        self.turned(around(ONE, when(B, ONE, TWO)), to(one, fork(B, one, give("j", TWO))))
        self.turned(around(let("v", A, ask("g", V)), ONE), to(held("v", A, hand("g", V, to="j")), one))


class PutTest(RulesTest):
    """Each sort of term put under x: the A of a let."""

    def put(self, term, lead):
        # lead makes the whole of what comes behind.
        self.turned(let("x", term, plus(X, B)), lead(home(plus(X, B))))

    def test_a_simple_one(self):
        self.put(SUM, lambda t: held("x", SUM, t))
        self.put(THREE, lambda t: held("x", THREE, t))

    def test_plus_and_less(self):
        for make in (plus, less):
            self.put(make(tell(A), B), lambda t: told("v", A, held("x", make(V, B), t)))
            self.put(make(ONE, ask("h")), lambda t: post("j", "v", held("x", make(ONE, V), t), hand("h", to="j")))
            self.put(make(tell(A), tell(B)), lambda t: told("v", A, told("w", B, held("x", make(V, W), t))))

    def test_tell(self):
        self.put(tell(SUM), lambda t: told("x", SUM, t))
        self.put(tell(tell(A)), lambda t: told("v", A, told("x", V, t)))

    def test_ask(self):
        self.put(ask("h"), lambda t: post("j", "x", t, hand("h", to="j")))
        self.put(ask("f", A, SUM), lambda t: post("j", "x", t, hand("f", A, SUM, to="j")))
        self.put(ask("f", tell(A), B), lambda t: told("v", A, post("j", "x", t, hand("f", V, B, to="j"))))
        self.put(ask("g", ask("h")), lambda t: post("i", "v", post("j", "x", t, hand("g", V, to="j")), hand("h", to="i")))

    def test_if(self):
        self.put(when(A, B, SUM), lambda t: post("j", "x", t, fork(A, give("j", B), give("j", SUM))))
        self.put(
            when(tell(A), ask("h"), tell(B)),
            lambda t: told("v", A, post("j", "x", t, fork(V, hand("h", to="j"), told("w", B, give("j", W))))),
        )

    def test_let(self):
        self.put(let("y", A, plus(Y, Y)), lambda t: held("y", A, held("x", plus(Y, Y), t)))
        self.put(let("y", tell(A), tell(Y)), lambda t: told("y", A, told("x", Y, t)))
        self.put(let("y", ask("h"), ask("g", Y)), lambda t: post("i", "y", post("j", "x", t, hand("g", Y, to="j")), hand("h", to="i")))


class SimpleTest(RulesTest):
    """Each sort of term made simple: the part of a plus."""

    def made(self, term, lead, simple):
        self.turned(plus(B, term), lead(home(plus(B, simple))))
        self.turned(less(term, B), lead(home(less(simple, B))))
        self.turned(ask("g", term), lead(hand("g", simple)))
        self.turned(when(term, A, B), lead(fork(simple, home(A), home(B))))
        self.turned(tell(term), lead(told("last", simple, home(name("last")))))

    def test_a_simple_one(self):
        self.made(SUM, lambda t: t, SUM)
        self.made(THREE, lambda t: t, THREE)

    def test_plus_and_less(self):
        for make in (plus, less):
            self.made(make(tell(A), B), lambda t: told("v", A, t), make(V, B))
            self.made(make(SUM, tell(B)), lambda t: told("v", B, t), make(SUM, V))
            self.made(make(ONE, make(tell(A), tell(B))), lambda t: told("v", A, told("w", B, t)), make(ONE, make(V, W)))

    def test_let(self):
        self.made(let("x", A, plus(X, ONE)), lambda t: held("x", A, t), plus(X, ONE))
        self.made(let("x", tell(A), X), lambda t: told("x", A, t), X)
        self.made(let("x", ONE, tell(X)), lambda t: held("x", ONE, told("v", X, t)), V)
        self.made(let("x", ONE, let("y", TWO, less(X, Y))), lambda t: held("x", ONE, held("y", TWO, t)), less(X, Y))

    def test_others_are_put_under_a_new_word(self):
        self.made(tell(SUM), lambda t: told("v", SUM, t), V)
        self.made(tell(tell(A)), lambda t: told("v", A, told("w", V, t)), W)
        self.made(ask("h"), lambda t: post("j", "v", t, hand("h", to="j")), V)
        self.made(ask("g", tell(A)), lambda t: told("v", A, post("j", "w", t, hand("g", V, to="j"))), W)
        self.made(when(A, ONE, SUM), lambda t: post("j", "v", t, fork(A, give("j", ONE), give("j", SUM))), V)


class OrderTest(RulesTest):
    def test_what_is_put_goes_ahead_of_all_that_comes_behind(self):
        self.turned(
            plus(plus(tell(ONE), ask("h")), when(tell(TWO), tell(THREE), A)),
            told(
                "v",
                ONE,
                post(
                    "i",
                    "w",
                    told("x", TWO, post("j", "y", home(plus(plus(V, W), Y)), fork(X, told("z", THREE, give("j", name("z"))), give("j", A)))),
                    hand("h", to="i"),
                ),
            ),
        )

    def test_a_name_may_stay_behind_what_is_put(self):
        self.turned(plus(plus(A, ONE), tell(B)), told("v", B, home(plus(plus(A, ONE), V))))

    def test_terms_of_an_ask_in_order(self):
        self.turned(ask("f", ask("h"), tell(A)), post("j", "v", told("w", A, hand("f", V, W)), hand("h", to="j")))

    def test_behind_a_let_within(self):
        self.turned(
            let("x", let("y", tell(A), tell(B)), plus(X, tell(X))),
            told("y", A, told("x", B, told("v", X, home(plus(X, V))))),
        )


class WordsTest(unittest.TestCase):
    def test_new_words_are_none_of_the_errands_own(self):
        # The errand's own words are those that new ones look like most.
        for own in ("aq", "bq", "cq", "dq"):
            for names, body in (
                ((own,), tell(plus(tell(name(own)), ask("f", ask("f", name(own)))))),
                (("n",), let(own, tell(tell(ONE)), plus(tell(name(own)), when(ask("f", ONE), tell(ONE), name(own))))),
                (("n",), plus(tell(ONE), let(own, ask("f", ONE), plus(tell(name(own)), name(own))))),
            ):
                book = (("f", names, body),)
                need_book(book)
                turned = turn_book(book)
                self.assertIs(is_turned(turned), True)
                self.assertEqual(run_turned(turned, "f", (3,), 20), run(book, "f", (3,), 20))
                self.assertEqual(anew_reference(turned), anew_reference(turn_reference(book)))

    def test_own_words_stay(self):
        book = (("f", ("zq", "aq"), let("bq", name("aq"), less(name("bq"), name("zq")))),)
        self.assertEqual(turn_book(book), (("f", ("zq", "aq"), held("bq", name("aq"), home(less(name("bq"), name("zq"))))),))

    def test_more_new_words_than_signs(self):
        sums = ONE
        for _ in range(80):
            sums = plus(sums, tell(ONE))
        turned = turn_book(book_of(sums, *["aq", "zq", "baq", "bbq"]))
        self.assertEqual(anew_reference(turned), anew_reference(turn_reference(book_of(sums, *["aq", "zq", "baq", "bbq"]))))
        self.assertEqual(run_turned(turned, "f", (0, 0, 0, 0), 1)[1], ("done", 81))


class RunsTest(unittest.TestCase):
    def test_by_reference_and_by_runs(self):
        within = 0
        for seed in range(800):
            maker = BookMaker(seed)
            book = maker.book()
            turned = turn_book(book)
            self.assertEqual(anew_reference(turned), anew_reference(turn_reference(book)), seed)
            within += is_turned(turned)
            f, numbers = maker.asking()
            for most in (0, 1, 2, 5, 40):
                self.assertEqual(run_turned(turned, f, numbers, most), run(book, f, numbers, most), (seed, most))
        self.assertGreater(within, 700)

    def test_three_thousand_asks(self):
        n_less = less(N, ONE)
        for body, numbers in (
            (when(N, plus(N, ask("f", n_less)), num(0)), (999,)),
            (when(N, ask("f", n_less), num(5)), (999,)),
            (plus(tell(N), ask("f", plus(N, ONE))), (0,)),
            (ask("f", tell(plus(N, ONE))), (7,)),
            (when(N, plus(ask("f", n_less), ask("f", n_less)), ONE), (10,)),
            (when(N, let("x", when(n_less, ask("f", n_less), TWO), tell(X)), THREE), (800,)),
        ):
            book = book_of(body, "n")
            for most in (2999, 3000):
                told_by_run = run(book, "f", numbers, most)
                self.assertGreater(len(told_by_run[0]), 799)
                self.assertEqual(run_turned(turn_book(book), "f", numbers, most), told_by_run)

    def test_every_sort(self):
        turned = turn_book(EVERY_SORT)
        for numbers in ((0, 0), (3, 8), (999, 999)):
            self.assertEqual(run_turned(turned, "f", numbers, 9), run(EVERY_SORT, "f", numbers, 9))

    def test_books_of_as_many_terms_as_may_be(self):
        for body in (broad(40), chain(12)):
            book = book_of(body)
            self.assertIsNone(why_no_book(book))
            turned = turn_book(book)
            self.assertIs(is_turned(turned), True)
            self.assertEqual(run_turned(turned, "f", (), 1), run(book, "f", (), 1))

    def test_more_within_one_another_than_a_book_has(self):
        deep = ONE
        for k in range(400):
            deep = when(ask("f"), ONE, deep) if k % 2 else plus(ONE, deep)
        for body in (chain(1500), deep):
            book = book_of(body)
            self.assertEqual(run_turned(turn_book(book), "f", (), 300), run(book, "f", (), 300))

    def test_nothing_is_changed(self):
        before = copy.deepcopy(EVERY_SORT)
        turn_book(EVERY_SORT)
        self.assertEqual(EVERY_SORT, before)


if __name__ == "__main__":
    unittest.main()
