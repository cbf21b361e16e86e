import copy
import unittest

from tests.makers import BookMaker, TurnedMaker
from tests.terms import EVERY_SORT, less, name, num, plus
from tests.turned_terms import BENT, EVERY_PART, HOME, fork, give, hand, held, letters, post, tells, told, turned_of
from tests.turning_reference import anew_reference, laid_reference
from whatnext.anew import are_alike
from whatnext.back import back, bent_at, is_neat
from whatnext.books import why_no_book
from whatnext.errors import NextError, TooGreat
from whatnext.laid import is_laid, laid
from whatnext.runs import run
from whatnext.turnedbooks import is_turned, turned_parts
from whatnext.turnedruns import run_turned
from whatnext.turning import turn_book

ONE, TWO = num(1), num(2)
A, X, Y, Z = name("a"), name("x"), name("y"), name("z")
G = ("g", (), HOME)


def count(part):
    return 1 + sum(count(one) for one in turned_parts(part))


class IsLaidTest(unittest.TestCase):
    def tells(self, expected, *bodies):
        for body in bodies:
            for turned in (turned_of(body), (G, *turned_of(body)), (*turned_of(body), G)):
                with self.subTest(turned=str(turned)[:90]):
                    self.assertIs(is_laid(turned), expected)

    def test_laid_ones(self):
        self.tells(
            True,
            HOME,
            hand("f"),
            told("x", ONE, held("y", ONE, hand("f"))),
            fork(ONE, HOME, hand("f")),
            post("j", "x", HOME, hand("f", to="j")),
            post("j", "x", hand("f"), hand("f", to="j")),
            post("j", "x", post("k", "y", HOME, hand("f", to="k")), hand("f", to="j")),
            fork(ONE, post("j", "x", HOME, hand("f", to="j")), post("k", "y", HOME, hand("f", to="k"))),
            told("z", ONE, post("j", "x", fork(X, HOME, hand("f")), hand("f", to="j"))),
        )

    def test_a_give_that_does_not_go_to_home(self):
        one = give("j", ONE)
        self.tells(
            False,
            post("j", "x", HOME, one),
            post("j", "x", HOME, fork(ONE, one, hand("f", to="j"))),
            post("j", "x", HOME, post("k", "y", one, hand("f", to="k"))),
        )

    def test_a_u_of_a_post_that_is_no_ask(self):
        ask_to = hand("f", to="j")
        self.tells(
            False,
            post("j", "x", HOME, HOME),
            post("j", "x", HOME, told("y", ONE, ask_to)),
            post("j", "x", HOME, held("y", ONE, ask_to)),
            post("j", "x", HOME, fork(ONE, ask_to, ask_to)),
            post("j", "x", HOME, post("k", "y", HOME, hand("f", to="k"))),
            post("j", "x", HOME, post("k", "y", HOME, ask_to)),
            told("z", ONE, post("j", "x", HOME, held("y", ONE, ask_to))),
            fork(ONE, HOME, post("j", "x", HOME, held("y", ONE, ask_to))),
            post("k", "z", post("j", "x", HOME, held("y", ONE, ask_to)), hand("f", to="k")),
        )

    def test_an_ask_that_hands_on_another(self):
        self.tells(
            False,
            post("j", "x", HOME, hand("f")),
            # In T of k the ask hands on the j around it.
            post("j", "x", HOME, post("k", "y", hand("f", to="j"), hand("f", to="k"))),
            post("j", "x", HOME, post("k", "y", HOME, hand("f", to="j"))),
            post("j", "x", post("k", "y", HOME, hand("f")), hand("f", to="j")),
        )

    def test_those_told_and_others(self):
        self.assertIs(is_laid(EVERY_PART), False)
        self.assertIs(is_laid(BENT), False)
        self.assertIs(is_laid(laid(EVERY_PART)), True)
        self.assertIs(is_laid(laid(BENT)), True)

    def test_far_within_one_another(self):
        self.assertIs(is_laid(turned_of(tells(1500))), True)


class LaidTest(unittest.TestCase):
    def laid(self, body, expected):
        """What is told, and that it runs as the body does, f asked with a, g with one number, h with none."""
        others = (("g", ("c",), told("d", name("c"), give("home", name("d")))), ("h", (), give("home", num(3))))
        turned = (*turned_of(body, "a"), *others)
        self.assertIs(is_turned(turned), True)
        got = laid(turned)
        self.assertEqual(anew_reference(got), anew_reference((*turned_of(expected, "a"), *others)))
        self.assertEqual(anew_reference(got), anew_reference(laid_reference(turned)))
        self.same_runs(turned, got, "f", [(0,), (1,), (7,)])

    def same_runs(self, turned, got, f, askings):
        self.assertIs(is_turned(got) or max(count(body) for name, names, body in got) > 120, True)
        self.assertIs(is_laid(got), True)
        self.assertIsNone(bent_at(got))
        self.assertIs(is_neat(got), True)
        self.assertTrue(are_alike(laid(got), got))
        for numbers in askings:
            for most in (0, 1, 2, 3, 30):
                trail, end, deepest, made = run_turned(turned, f, numbers, most)
                other = run_turned(got, f, numbers, most)
                self.assertEqual(other[:3], (trail, end, deepest))
                self.assertLessEqual(other[3], made)
                self.assertEqual(run(back(got), f, numbers, most)[:3], (trail, end, deepest))

    def test_what_is_laid_stays(self):
        for body in (
            give("home", plus(A, ONE)),
            hand("h"),
            told("x", A, held("y", X, fork(Y, hand("g", X), give("home", Y)))),
            post("j", "x", give("home", plus(X, A)), hand("g", A, to="j")),
            post("j", "x", post("k", "y", give("home", plus(X, Y)), hand("h", to="k")), hand("g", A, to="j")),
        ):
            self.laid(body, body)

    def test_a_give_to_a_post_left_out(self):
        self.laid(post("j", "x", give("home", plus(X, A)), give("j", TWO)), held("x", TWO, give("home", plus(X, A))))
        self.laid(
            post("j", "x", told("y", X, hand("g", Y)), held("z", A, give("j", plus(Z, ONE)))),
            held("z", A, held("x", plus(Z, ONE), told("y", X, hand("g", Y)))),
        )

    def test_an_ask_to_a_post_left_out(self):
        self.laid(
            post("j", "x", give("home", plus(X, A)), told("y", ONE, hand("g", Y, to="j"))),
            told("y", ONE, post("j", "x", give("home", plus(X, A)), hand("g", Y, to="j"))),
        )

    def test_a_post_that_is_used_often(self):
        t = told("y", plus(X, A), give("home", Y))
        self.laid(
            post("j", "x", t, fork(A, give("j", ONE), fork(less(A, ONE), hand("h", to="j"), give("j", TWO)))),
            fork(A, held("x", ONE, t), fork(less(A, ONE), post("j", "u", renamed(t, "u", "v"), hand("h", to="j")), held("w", TWO, renamed(t, "w", "z")))),
        )

    def test_a_post_that_is_never_used(self):
        self.laid(post("j", "x", give("home", X), give("home", A)), give("home", A))
        self.laid(post("j", "x", give("home", X), hand("h")), hand("h"))
        self.laid(
            post("j", "x", give("home", X), post("k", "y", give("home", Y), hand("h", to="k"))),
            post("k", "y", give("home", Y), hand("h", to="k")),
        )

    def test_posts_within_posts_in_t(self):
        self.laid(
            post("j", "x", post("k", "y", give("home", plus(X, Y)), give("k", X)), hand("h", to="j")),
            post("j", "x", held("y", X, give("home", plus(X, Y))), hand("h", to="j")),
        )

    def test_posts_within_posts_in_u(self):
        # T of k is within U of j: what it gives to j is done there, too.
        self.laid(
            post("j", "x", give("home", plus(X, A)), post("k", "y", give("j", plus(Y, ONE)), hand("h", to="k"))),
            post("k", "y", held("x", plus(Y, ONE), give("home", plus(X, A))), hand("h", to="k")),
        )
        self.laid(
            post("j", "x", give("home", plus(X, A)), post("k", "y", hand("g", Y, to="j"), hand("h", to="k"))),
            post("k", "y", post("j", "x", give("home", plus(X, A)), hand("g", Y, to="j")), hand("h", to="k")),
        )

    def test_a_bent_one(self):
        self.laid(
            post("j", "x", give("home", X), post("k", "y", told("z", Y, give("home", Z)), fork(A, give("j", ONE), hand("h", to="j")))),
            fork(A, held("x", ONE, give("home", X)), post("j", "u", give("home", name("u")), hand("h", to="j"))),
        )
        self.laid(BENT[0][2], give("home", num(4)))

    def test_copies_within_copies(self):
        inner = post("k", "y", give("j", Y), fork(A, give("k", X), hand("h", to="k")))
        body = post("i", "x", post("j", "z", give("home", plus(X, Z)), inner), fork(A, give("i", ONE), hand("g", A, to="i")))
        got = laid(turned_of(body, "a"))[0][2]
        words = [part[2 if part[0] == "post" else 1] for part in all_in(got) if part[0] in ("let", "tell", "post")]
        self.assertEqual(len(words), 10)
        self.assertEqual(len(set(words)), 10)
        self.same_runs(
            (*turned_of(body, "a"), ("g", ("c",), give("home", name("c"))), ("h", (), HOME)),
            laid((*turned_of(body, "a"), ("g", ("c",), give("home", name("c"))), ("h", (), HOME))),
            "f",
            [(0,), (1,)],
        )

    def test_names_stay_and_new_words_are_none_of_them(self):
        for own in ("aq", "bq", "cq"):
            body = post("j", "x", give("home", plus(X, name(own))), fork(name(own), hand("f", ONE, to="j"), give("j", ONE)))
            got = laid(turned_of(body, own))
            self.assertEqual(got[0][:2], ("f", (own,)))
            self.assertIs(is_turned(got), True)
            self.same_runs(turned_of(body, own), got, "f", [(0,), (1,)])

    def test_nothing_is_changed(self):
        before = copy.deepcopy(EVERY_PART)
        laid(EVERY_PART)
        self.assertEqual(EVERY_PART, before)

    def test_by_reference_and_by_runs(self):
        bent = fewer = 0
        for seed in range(1200):
            maker = TurnedMaker(seed, most_rest=36, is_straight=seed % 4 == 0)
            turned = maker.book()
            got = laid(turned)
            self.assertEqual(anew_reference(got), anew_reference(laid_reference(turned)))
            f, numbers = maker.asking()
            self.same_runs(turned, got, f, [numbers])
            self.assertIn(why_no_book(back(got)), (None, "great"))
            bent += bent_at(turned) is not None
            fewer += run_turned(got, f, numbers, 30)[3] < run_turned(turned, f, numbers, 30)[3]
        self.assertGreater(bent, 400)
        self.assertGreater(fewer, 300)

    def test_books_turned(self):
        for book in [EVERY_SORT, *[BookMaker(seed).book() for seed in range(300)]]:
            turned = turn_book(book)
            expected = laid_reference(turned)
            if max(count(body) for name, names, body in expected) > 200:
                continue
            got = laid(turned)
            self.assertEqual(anew_reference(got), anew_reference(expected))
            for f, names, body in book:
                self.same_runs(turned, got, f, [tuple([2] * len(names))])


def renamed(part, x, y):
    """told y, with other words."""
    return eval(repr(part).replace("'x'", repr(x)).replace("'y'", repr(y)))


def all_in(part):
    return [part, *[inner for one in turned_parts(part) for inner in all_in(one)]]


class TooGreatTest(unittest.TestCase):
    def great(self, turned, name_of):
        for _ in range(2):
            with self.assertRaises(TooGreat) as caught:
                laid(turned)
            self.assertEqual(caught.exception.name, name_of)
            self.assertIsInstance(caught.exception, NextError)

    def turned(self, parts, use, name_of="f"):
        """A turned book whose first errand comes to so many parts, its post being used so 24 times."""
        used = use
        for _ in range(23):
            used = fork(ONE, use, used)
        # T has four parts; a let and its number, or a post and its ask, come with it each time.
        repeated = post("j", "x", fork(X, hand("h"), hand("h")), used)
        own = 24 * 6 + 23 * 2 + 2
        turned = ((name_of, (), fork(ONE, end_of(parts - own), repeated)), *OTHERS)
        self.assertIs(is_turned(turned), True)
        self.assertEqual(count(laid_reference(turned)[0][2]), parts)
        return turned

    def test_just_two_hundred_and_one_more(self):
        for use in (give("j", ONE), hand("h", to="j")):
            for parts in (195, 199, 200):
                self.assertEqual(count(laid(self.turned(parts, use))[0][2]), parts)
            for parts in (201, 202, 203):
                self.great(self.turned(parts, use), "f")

    def test_simple_terms_are_counted(self):
        for make in (lambda term, t: held("y", term, t), lambda term, t: told("y", term, t), lambda term, t: fork(term, t, hand("h"))):
            (name_of, names, body), *others = self.turned(194, give("j", ONE))
            for term, is_great in ((plus(ONE, ONE), False), (plus(ONE, plus(ONE, plus(ONE, ONE))), True)):
                turned = ((name_of, names, make(term, body)), *others)
                self.assertIs(is_turned(turned), True)
                self.assertIs(count(laid_reference(turned)[0][2]) > 200, is_great)
                if is_great:
                    self.great(turned, "f")
                else:
                    self.assertLessEqual(count(laid(turned)[0][2]), 200)

    def test_the_first_such_errand(self):
        use = give("j", ONE)
        great, fine = [self.turned(parts, use)[0] for parts in (201, 200)]
        self.great((("z", *fine[1:]), ("y", *great[1:]), ("a", *great[1:]), *OTHERS), "y")
        self.great((*OTHERS, ("y", *great[1:]), ("a", *great[1:])), "y")
        self.great((("z", *great[1:]), ("a", *great[1:]), *OTHERS), "z")

    def test_each_errand_by_itself(self):
        fine = self.turned(200, hand("h", to="j"))[0]
        got = laid((fine, ("a", *fine[1:]), *OTHERS))
        self.assertEqual([count(body) for name, names, body in got][:2], [200, 200])

    def test_far_more_than_could_be_made(self):
        # Each post gives twice to the one around it, so that the outermost is due 2 ** 60 times.
        body = give(letters(59), ONE)
        for k in reversed(range(60)):
            to = letters(k - 1) if k else "home"
            body = post(letters(k), letters(k), fork(name(letters(k)), give(to, ONE), give(to, TWO)), body)
        self.great(turned_of(body), "f")
        self.great((("z", (), body), *turned_of(body)), "z")
        # Likewise where it is small enough to be a turned book.
        body = give(letters(13), ONE)
        for k in reversed(range(14)):
            to = letters(k - 1) if k else "home"
            body = post(letters(k), letters(k), fork(name(letters(k)), give(to, ONE), give(to, TWO)), body)
        self.assertIs(is_turned(turned_of(body)), True)
        self.great(turned_of(body), "f")

    def test_many_posts_that_are_never_used(self):
        body = HOME
        for k in range(500):
            body = post(letters(k), letters(k), HOME, body)
        self.assertEqual(laid(turned_of(body)), turned_of(HOME))

    def test_far_within_one_another(self):
        body = give("j", ONE)
        for k in range(97):
            body = held(letters(k), ONE, body)
        turned = turned_of(post("j", "x", give("home", X), body))
        self.assertEqual(count(laid(turned)[0][2]), 198)


OTHERS = (("h", (), HOME), ("two", ("a", "b"), HOME))


def end_of(parts):
    """A part that ends, of so many parts."""
    if parts == 1:
        return hand("h")
    if parts % 2:
        return hand("two", ONE, sums(parts - 2))
    return give("home", sums(parts - 1))


def sums(terms):
    """A simple term of so many terms, an odd number."""
    return ONE if terms == 1 else plus(ONE, sums(terms - 2))


if __name__ == "__main__":
    unittest.main()
