import copy
import unittest

from tests.makers import BookMaker, TurnedMaker
from tests.terms import EVERY_SORT, ask, book_of, chain, less, let, name, num, plus, tell, when
from tests.turned_terms import BENT, EVERY_PART, HOME, fork, give, hand, held, letters, post, tells, told, turned_of
from tests.turning_reference import anew_reference, back_reference, bent_reference, book_anew_reference, by_errand
from whatnext.anew import are_alike
from whatnext.back import back, bent_at, is_neat, named_book
from whatnext.books import all_places, is_simple, need_book, parts_of, term_at, why_no_book
from whatnext.errors import Bent, NextError
from whatnext.runs import run
from whatnext.turnedruns import run_turned
from whatnext.turning import turn_book

ONE, TWO = num(1), num(2)
A, X, Y = name("a"), name("x"), name("y")
SUM = plus(A, less(A, ONE))


class BentTest(unittest.TestCase):
    def at(self, place, body):
        """The place, told without the errand's name, or None where the body is straight."""
        whole = None if place is None else ("f", *place)
        other = ("g", (), HOME)
        for turned in (turned_of(body, "a"), (other, *turned_of(body, "a"))):
            for _ in range(2):
                self.assertEqual(bent_at(turned), whole)
            if place is None:
                back(turned)
            else:
                with self.assertRaises(Bent) as caught:
                    back(turned)
                self.assertEqual(caught.exception.place, whole)
                self.assertIsInstance(caught.exception, NextError)
                self.assertIs(is_neat(turned), False)

    def test_home_is_due_in_a_body(self):
        for body in (
            HOME,
            hand("f", A),
            told("x", A, HOME),
            held("x", A, hand("f", X)),
            fork(A, HOME, hand("f", A)),
        ):
            self.at(None, body)

    def test_in_t_of_a_post_the_same_one_is_due(self):
        self.at(None, post("j", "x", HOME, give("j", ONE)))
        self.at(None, post("j", "x", hand("f", X), give("j", ONE)))
        inner = post("k", "y", give("j", Y), give("k", ONE))
        self.at(None, post("j", "x", HOME, inner))
        self.at((1, 0), post("j", "x", HOME, post("k", "y", HOME, give("k", ONE))))
        self.at((1, 0), post("j", "x", HOME, post("k", "y", hand("f", Y), give("k", ONE))))

    def test_in_u_of_a_post_its_own_is_due(self):
        self.at(None, post("j", "x", HOME, hand("f", A, to="j")))
        self.at((1,), post("j", "x", HOME, HOME))
        self.at((1,), post("j", "x", HOME, hand("f", A)))
        self.at((1, 1), post("j", "x", HOME, post("k", "y", give("j", ONE), give("j", ONE))))
        self.at((1, 1), post("j", "x", HOME, post("k", "y", give("j", ONE), hand("f", A, to="j"))))
        self.at((1, 1), post("j", "x", HOME, post("k", "y", give("j", ONE), HOME)))

    def test_elsewhere_what_is_due_around(self):
        one = give("j", ONE)
        for make in (
            lambda part: told("y", A, part),
            lambda part: held("y", A, part),
            lambda part: fork(A, part, part),
        ):
            self.at(None, post("j", "x", HOME, make(one)))
            self.at((1, 1), post("j", "x", HOME, make(HOME)))
            self.at((1, 1), post("j", "x", HOME, make(hand("f", A))))
            self.at(None, post("j", "x", make(HOME), one))
            self.at((1, 0, 1), post("j", "x", HOME, post("k", "z", make(HOME), give("k", ONE))))
        self.at(None, post("j", "x", HOME, fork(A, one, one)))
        self.at((1, 2), post("j", "x", HOME, fork(A, one, HOME)))
        self.at((1, 2), post("j", "x", HOME, fork(A, one, hand("f", A))))

    def test_the_place_counts_the_terms_ahead(self):
        bent = post("j", "x", HOME, HOME)
        self.at((1, 1), told("y", A, bent))
        self.at((1, 1), held("y", SUM, bent))
        self.at((1, 1), fork(A, bent, HOME))
        self.at((2, 1), fork(A, HOME, bent))
        self.at((0, 1), post("k", "y", bent, give("k", ONE)))
        self.at((1, 0), post("k", "y", HOME, post("j", "x", HOME, give("j", ONE))))

    def test_the_least_place(self):
        bent = [post(j, x, HOME, HOME) for j, x in (("i", "u"), ("j", "v"))]
        self.at((1, 1), fork(A, bent[0], bent[1]))
        # Of a post T is ahead of U.
        self.at((0, 1), post("k", "x", bent[0], HOME))
        self.at((0, 1), post("k", "x", bent[0], bent[1]))
        # The errand itself is least.
        self.at((1,), post("k", "x", HOME, HOME))

    def test_the_first_errand_that_has_one(self):
        bent = post("j", "x", HOME, HOME)
        deep = told("y", ONE, bent)
        self.assertEqual(bent_at((("z", (), deep), ("a", (), bent))), ("z", 1, 1))
        self.assertEqual(bent_at((("b", (), HOME), ("z", (), deep), ("a", (), bent))), ("z", 1, 1))
        self.assertEqual(bent_at((("b", (), HOME), ("a", (), bent), ("z", (), deep))), ("a", 1))

    def test_books_turned_are_straight(self):
        for seed in range(300):
            self.assertIsNone(bent_at(turn_book(BookMaker(seed).book())))
        self.assertIsNone(bent_at(EVERY_PART))
        self.assertEqual(bent_at(BENT), ("f", 1))

    def test_far_within_one_another(self):
        part = give(letters(799), ONE)
        for k in reversed(range(800)):
            part = post(letters(k), letters(k), give(letters(k - 1) if k else "home", ONE), part)
        self.assertIsNone(bent_at(turned_of(part)))
        self.assertEqual(bent_at(turned_of(post("j", "x", HOME, part))), ("f", 1, 0))

    def test_by_reference(self):
        seen = {True: 0, False: 0}
        for seed in range(1000):
            turned = TurnedMaker(seed, is_straight=seed % 3 == 0).book()
            found = bent_reference(turned)
            self.assertEqual(bent_at(turned), found[0] if found else None)
            seen[bool(found)] += 1
        self.assertGreater(seen[True], 200)
        self.assertGreater(seen[False], 300)


class BackTest(unittest.TestCase):
    def back(self, body, expected):
        turned = (*turned_of(body, "a"), ("g", (), hand("f", TWO)))
        book = back(turned)
        self.assertEqual(book, (*book_of(expected, "a"), ("g", (), ask("f", TWO))))
        self.assertIsNone(why_no_book(book))
        for n in (0, 1, 7):
            for most in (0, 1, 2, 9):
                trail, end, deepest, made = run_turned(turned, "f", (n,), most)
                self.assertEqual(run(book, "f", (n,), most)[:3], (trail, end, deepest))
                self.assertLessEqual(run(book, "f", (n,), most)[3], made)

    def test_each_sort_of_part(self):
        self.back(give("home", SUM), SUM)
        self.back(hand("f", SUM), ask("f", SUM))
        self.back(hand("g"), ask("g"))
        self.back(told("x", SUM, give("home", X)), let("x", tell(SUM), X))
        self.back(held("x", SUM, give("home", X)), let("x", SUM, X))
        self.back(fork(SUM, hand("g"), give("home", A)), when(SUM, ask("g"), A))
        self.back(post("j", "x", give("home", plus(X, A)), hand("g", to="j")), let("x", ask("g"), plus(X, A)))

    def test_u_of_a_post_goes_ahead_of_t(self):
        self.back(
            post("j", "x", told("y", X, give("home", Y)), fork(A, told("z", TWO, give("j", name("z"))), give("j", ONE))),
            let("x", when(A, let("z", tell(TWO), name("z")), ONE), let("y", tell(X), Y)),
        )

    def test_parts_within_one_another(self):
        self.back(
            post("j", "x", post("k", "y", give("home", plus(X, Y)), hand("g", to="k")), held("z", SUM, hand("f", name("z"), to="j"))),
            let("x", let("z", SUM, ask("f", name("z"))), let("y", ask("g"), plus(X, Y))),
        )

    def test_idle_posts(self):
        self.back(post("j", "x", give("home", X), give("j", ONE)), let("x", ONE, X))
        self.back(post("j", "x", give("home", X), post("k", "y", give("j", Y), hand("g", to="k"))), let("x", let("y", ask("g"), Y), X))

    def test_no_more_are_left_than_are_made(self):
        turned = turned_of(post("j", "x", give("home", X), give("j", ONE)))
        self.assertEqual(run_turned(turned, "f", (), 1)[3], 1)
        self.assertEqual(run(back(turned), "f", (), 1)[3], 0)

    def test_straight_ones(self):
        fewer = 0
        for seed in range(600):
            maker = TurnedMaker(seed, is_straight=True)
            turned = maker.book()
            book = back(turned)
            self.assertEqual(book, by_errand(turned, lambda names, body: back_reference(body)))
            self.assertIn(why_no_book(book), (None, "great"))
            f, numbers = maker.asking()
            for most in (0, 1, 3, 40):
                trail, end, deepest, made = run_turned(turned, f, numbers, most)
                told_by_run = run(book, f, numbers, most)
                self.assertEqual(told_by_run[:3], (trail, end, deepest))
                self.assertLessEqual(told_by_run[3], made)
                fewer += told_by_run[3] < made
        self.assertGreater(fewer, 100)

    def test_more_within_one_another_than_a_turned_book_has(self):
        book = back(turned_of(tells(1500)))
        self.assertEqual(run(book, "f", (), 1), run_turned(turned_of(tells(1500)), "f", (), 1))
        self.assertEqual(len(all_places(book)), 4501)

    def test_nothing_is_changed(self):
        before = copy.deepcopy(EVERY_PART)
        back(EVERY_PART)
        self.assertEqual(EVERY_PART, before)


class NeatTest(unittest.TestCase):
    def test_neat_ones(self):
        for body in (
            HOME,
            hand("f"),
            fork(ONE, HOME, told("x", ONE, HOME)),
            post("j", "x", HOME, hand("f", to="j")),
            post("j", "x", HOME, fork(ONE, give("j", ONE), give("j", TWO))),
            post("j", "x", post("k", "y", HOME, hand("f", to="k")), fork(ONE, give("j", ONE), hand("f", to="j"))),
        ):
            self.assertIs(is_neat(turned_of(body)), True)
            self.assertIs(is_neat((("g", (), HOME), *turned_of(body))), True)

    def test_straight_ones_that_are_not(self):
        for u in (
            give("j", ONE),
            told("y", ONE, hand("f", to="j")),
            held("y", ONE, hand("f", to="j")),
            held("y", ONE, fork(Y, give("j", ONE), give("j", ONE))),
            post("k", "y", give("j", Y), hand("f", to="k")),
        ):
            body = post("j", "x", HOME, u)
            for whole in (body, told("z", ONE, body), fork(ONE, HOME, body), post("l", "v", body, hand("f", to="l"))):
                self.assertIsNone(bent_at(turned_of(whole)))
                self.assertIs(is_neat(turned_of(whole)), False)
                self.assertIs(is_neat((("g", (), HOME), *turned_of(whole))), False)

    def test_bent_ones(self):
        for u in (hand("f"), fork(ONE, HOME, HOME), fork(ONE, give("j", ONE), hand("f")), HOME):
            self.assertIs(is_neat(turned_of(post("j", "x", HOME, u))), False)
        self.assertIs(is_neat(BENT), False)

    def test_books_turned_and_neat_ones_come_back(self):
        for seed in range(400):
            turned = turn_book(BookMaker(seed).book())
            self.assertIs(is_neat(turned), True)
            self.assertTrue(are_alike(turn_book(back(turned)), turned))

    def test_neat_ones_that_are_no_books_turned(self):
        neat = 0
        for seed in range(1500):
            turned = TurnedMaker(seed, most_rest=16, is_straight=True).book()
            if is_neat(turned):
                neat += 1
                self.assertEqual(anew_reference(turn_book(back(turned))), anew_reference(turned))
            else:
                self.assertNotEqual(anew_reference(turn_book(back(turned))), anew_reference(turned))
        self.assertGreater(neat, 200)


class NamedTest(unittest.TestCase):
    def test_parts_are_named(self):
        body = plus(tell(A), ask("f", when(A, ask("f", ONE), TWO)))
        expected = let(
            "u",
            tell(A),
            let("v", when(A, ask("f", ONE), TWO), let("w", ask("f", name("v")), plus(name("u"), name("w")))),
        )
        self.assertEqual(book_anew_reference(named_book(book_of(body, "a"))), book_anew_reference(book_of(expected, "a")))

    def test_a_let_in_an_a_goes_ahead(self):
        body = let("x", let("y", tell(A), plus(Y, ONE)), ask("f", X))
        self.assertEqual(named_book(book_of(body, "a")), book_of(let("y", tell(A), let("x", plus(Y, ONE), ask("f", X))), "a"))

    def test_a_simple_body_stays(self):
        self.assertEqual(named_book(book_of(SUM, "a")), book_of(SUM, "a"))

    def needs_named(self, book):
        need_simple = {"plus": (0, 1), "less": (0, 1), "tell": (0,), "if": (0,), "ask": (0, 1, 2, 3)}
        for place in all_places(book):
            term = term_at(book, place)
            for k, part in enumerate(parts_of(term)):
                if k in need_simple.get(term[0], ()):
                    self.assertTrue(is_simple(part), place)
            if term[0] == "let":
                self.assertTrue(is_simple(term[2]) or term[2][0] in ("tell", "ask", "if"), place)

    def test_by_runs(self):
        for book in [EVERY_SORT, *[BookMaker(seed).book() for seed in range(500)]]:
            named = named_book(book)
            self.needs_named(named)
            self.assertIn(why_no_book(named), (None, "great"))
            self.assertEqual(book_anew_reference(named_book(named)), book_anew_reference(named))
            for most in (0, 1, 2, 40):
                for f, names, body in book:
                    numbers = tuple([3] * len(names))
                    self.assertEqual(run(named, f, numbers, most), run(book, f, numbers, most))

    def test_what_is_far_within_one_another(self):
        book = book_of(chain(500))
        named = named_book(book)
        self.assertEqual(run(named, "f", (), 1), run(book, "f", (), 1))
        need_book(named_book(book_of(chain(5))))


if __name__ == "__main__":
    unittest.main()
