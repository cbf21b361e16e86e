import copy
import unittest

from tests.makers import BookMaker, TurnedMaker
from tests.terms import EVERY_SORT, ask, book_of, chain, less, let, name, num, plus, tell, when
from tests.turned_terms import EVERY_PART, HOME, fork, give, hand, held, letters, post, tells, told, turned_of
from tests.turning_reference import anew_reference, book_anew_reference
from whatnext.anew import anew, are_alike, book_anew, word_of
from whatnext.books import is_word
from whatnext.turnedbooks import is_turned

ONE = num(1)


class WordOfTest(unittest.TestCase):
    def test_words(self):
        for k, word in (
            (0, "aq"),
            (1, "bq"),
            (16, "qq"),
            (25, "zq"),
            (26, "baq"),
            (27, "bbq"),
            (51, "bzq"),
            (52, "caq"),
            (675, "zzq"),
            (676, "baaq"),
            (677, "babq"),
            (17575, "zzzq"),
            (17576, "baaaq"),
            (456975, "zzzzq"),
            (456976, "baaaaq"),
            (999999, "cexhnq"),
        ):
            with self.subTest(k=k):
                self.assertEqual(word_of(k), word)

    def test_all_are_unlike_and_words(self):
        words = [word_of(k) for k in range(20000)]
        self.assertEqual(len(set(words)), len(words))
        self.assertTrue(all(is_word(word) for word in words))


class AnewTest(unittest.TestCase):
    def one(self, names, body, names_told, told_body):
        """Told anew, and told anew once more, of an errand alone."""
        told = (("f", names_told, told_body),)
        self.assertEqual(anew((("f", names, body),)), told)
        self.assertEqual(anew(told), told)

    def test_names_go_first_and_words_as_they_are_met(self):
        body = held("x", name("b"), told("y", name("x"), give("home", plus(name("y"), name("a")))))
        self.one(
            ("b", "a"),
            body,
            ("aq", "bq"),
            held("cq", name("aq"), told("dq", name("cq"), give("home", plus(name("dq"), name("bq"))))),
        )

    def test_a_post_goes_ahead_of_both_its_parts(self):
        body = post("j", "x", told("y", name("x"), HOME), told("z", ONE, give("j", name("z"))))
        self.one((), body, (), post("aq", "aq", told("bq", name("aq"), HOME), told("cq", ONE, give("aq", name("cq")))))

    def test_words_of_t_go_ahead_of_those_of_u(self):
        one, two = post("k", "y", HOME, HOME), post("l", "z", HOME, HOME)
        self.one((), post("j", "x", one, two), (), post("aq", "aq", post("bq", "bq", HOME, HOME), post("cq", "cq", HOME, HOME)))

    def test_words_in_both_parts_of_an_if(self):
        body = fork(name("n"), held("x", ONE, HOME), held("y", ONE, HOME))
        self.one(("n",), body, ("aq",), fork(name("aq"), held("bq", ONE, HOME), held("cq", ONE, HOME)))

    def test_posts_words_are_numbered_by_themselves(self):
        body = held("y", ONE, post("j", "x", hand("f", name("x"), name("y")), post("k", "z", give("j", name("z")), hand("f", ONE, ONE, to="k"))))
        self.one(
            ("a", "b"),
            body,
            ("aq", "bq"),
            held(
                "cq",
                ONE,
                post("aq", "dq", hand("f", name("dq"), name("cq")), post("bq", "eq", give("aq", name("eq")), hand("f", ONE, ONE, to="bq"))),
            ),
        )

    def test_a_posts_word_that_is_another_word_too(self):
        body = post("x", "j", give("home", name("j")), held("x", ONE, give("x", name("x"))))
        self.one((), body, (), post("aq", "aq", give("home", name("aq")), held("bq", ONE, give("aq", name("bq")))))

    def test_words_that_look_anew_but_are_otherwise(self):
        body = held("aq", name("bq"), give("home", less(name("aq"), name("bq"))))
        self.one(("bq",), body, ("aq",), held("bq", name("aq"), give("home", less(name("bq"), name("aq")))))

    def test_what_is_no_word_of_the_errand_stays(self):
        same = (("let", (), hand("ask", num(7))), ("ask", ("aq",), give("home", num(999))))
        self.assertEqual(anew(same), same)
        self.assertEqual(anew(turned_of(fork(num(0), hand("f"), HOME))), turned_of(fork(num(0), hand("f"), HOME)))

    def test_each_errand_by_itself(self):
        one = ("x",), post("j", "y", HOME, give("j", name("x")))
        told = ("aq",), post("aq", "bq", HOME, give("aq", name("aq")))
        self.assertEqual(anew((("f", *one), ("g", *one))), (("f", *told), ("g", *told)))

    def test_every_part(self):
        told = anew(EVERY_PART)
        self.assertEqual(told, anew_reference(EVERY_PART))
        self.assertEqual(told[1:], (("g", ("aq", "bq"), hand("h")), ("h", (), give("home", num(7)))))
        self.assertEqual(anew(told), told)

    def test_more_than_twenty_six_words(self):
        told = anew(turned_of(tells(30)))
        self.assertEqual(told[0][2][1], "aq")
        part, words = told[0][2], []
        while part[0] == "tell":
            words.append(part[1])
            part = part[3]
        self.assertEqual(words[24:28], ["yq", "zq", "baq", "bbq"])

    def test_words_that_would_be_too_long_otherwise(self):
        # More words than there are of three signs, each a post's word too.
        part = HOME
        for k in range(700):
            part = post(letters(k), letters(k), part, HOME)
        told = anew(turned_of(part))
        part, words = told[0][2], []
        while part[0] == "post":
            self.assertEqual(part[1], part[2])
            words.append(part[1])
            part = part[3]
        self.assertEqual(words, [word_of(k) for k in range(700)])
        self.assertEqual(words[-1], "baxq")

    def test_nothing_is_changed(self):
        before = copy.deepcopy(EVERY_PART)
        anew(EVERY_PART)
        self.assertEqual(EVERY_PART, before)

    def test_by_reference(self):
        for seed in range(400):
            book = TurnedMaker(seed).book()
            told = anew(book)
            self.assertEqual(told, anew_reference(book))
            self.assertEqual(anew(told), told)
            self.assertTrue(is_turned(told))


class BookAnewTest(unittest.TestCase):
    def one(self, names, body, names_told, told_body):
        told = (("f", names_told, told_body),)
        self.assertEqual(book_anew((("f", names, body),)), told)
        self.assertEqual(book_anew(told), told)

    def test_names_then_lets_as_they_are_met(self):
        self.one(("b", "a"), let("x", name("b"), less(name("x"), name("a"))), ("aq", "bq"), let("cq", name("aq"), less(name("cq"), name("bq"))))

    def test_x_goes_ahead_of_a_and_b(self):
        body = let("x", let("y", ONE, name("y")), let("z", name("x"), name("z")))
        self.one((), body, (), let("aq", let("bq", ONE, name("bq")), let("cq", name("aq"), name("cq"))))

    def test_in_every_sort_of_term(self):
        def made(n, x, a, b, c, d, e):
            first = plus(let(a, ONE, name(a)), tell(let(b, ONE, name(b))))
            second = when(let(c, ONE, name(c)), less(let(d, ONE, name(d)), ONE), ask("f", let(e, ONE, name(e)), name(n)))
            return let(x, first, second)

        self.one(("n",), made(*"nxabcde"), ("aq",), made("aq", "bq", "cq", "dq", "eq", "fq", "gq"))

    def test_errands_and_numbers_stay(self):
        same = (("f", (), plus(num(7), ask("g", num(0)))), ("g", ("aq",), name("aq")))
        self.assertEqual(book_anew(same), same)

    def test_each_errand_by_itself(self):
        one = ("x",), let("y", name("x"), name("y"))
        told = ("aq",), let("bq", name("aq"), name("bq"))
        self.assertEqual(book_anew((("f", *one), ("g", *one))), (("f", *told), ("g", *told)))

    def test_many_words(self):
        term = ONE
        for k in reversed(range(700)):
            term = let(letters(k), ONE, term)
        told, words = book_anew(book_of(term))[0][2], []
        while told[0] == "let":
            words.append(told[1])
            told = told[3]
        self.assertEqual(words, [word_of(k) for k in range(700)])
        self.assertEqual(book_anew(book_of(chain(1500), "x"))[0][1], ("aq",))

    def test_by_reference(self):
        for book in [EVERY_SORT, *[BookMaker(seed).book() for seed in range(400)]]:
            told = book_anew(book)
            self.assertEqual(told, book_anew_reference(book))
            self.assertEqual(book_anew(told), told)


class AlikeTest(unittest.TestCase):
    first = (
        ("f", ("a", "b"), post("j", "x", held("y", name("x"), give("home", name("y"))), hand("g", name("a"), num(5), to="j"))),
        ("g", ("c", "d"), fork(name("c"), give("home", less(name("c"), name("d"))), hand("g", name("d"), name("c")))),
    )

    def test_other_words_alone(self):
        other = (
            ("f", ("u", "v"), post("w", "w", held("z", name("w"), give("home", name("z"))), hand("g", name("u"), num(5), to="w"))),
            ("g", ("d", "c"), fork(name("d"), give("home", less(name("d"), name("c"))), hand("g", name("c"), name("d")))),
        )
        for one, two in ((self.first, other), (other, self.first), (self.first, self.first), (self.first, anew(other))):
            self.assertIs(are_alike(one, two), True)

    def test_one_thing_that_is_otherwise(self):
        text = repr(self.first)
        for old, new in (
            # A word: the other one of two that are around.
            ("('ask', 'g', (('name', 'a'), ", "('ask', 'g', (('name', 'b'), "),
            ("('let', 'y', ('name', 'x'), ", "('let', 'y', ('name', 'a'), "),
            # A sign, a number, the order of an ask's terms.
            ("'less'", "'plus'"),
            ("'let'", "'tell'"),
            ("('number', 5)", "('number', 6)"),
            ("(('name', 'd'), ('name', 'c'))", "(('name', 'c'), ('name', 'd'))"),
            # The hand-on that an ask hands on, and where a give goes.
            ("('number', 5)), 'j')", "('number', 5)), 'home')"),
            # The errand that is asked, and an errand's own name.
            ("('ask', 'g', (('name', 'a')", "('ask', 'f', (('name', 'a')"),
            ("('f', ('a', 'b')", "('h', ('a', 'b')"),
        ):
            other = eval(text.replace(old, new))
            self.assertNotEqual(other, self.first)
            self.assertTrue(is_turned(other), other)
            self.assertIs(are_alike(self.first, other), False)
            self.assertIs(are_alike(other, self.first), False)

    def test_a_give_to_another_hand_on(self):
        makers = [turned_of(post("j", "x", HOME, give(to, ONE))) for to in ("j", "home")]
        self.assertIs(are_alike(*makers), False)

    def test_the_order_of_errands_and_an_errand_more(self):
        self.assertIs(are_alike(self.first, self.first[::-1]), False)
        self.assertIs(are_alike(self.first, (*self.first, ("h", (), HOME))), False)
        self.assertIs(are_alike((*self.first, ("h", (), HOME)), self.first), False)

    def test_a_name_more(self):
        self.assertIs(are_alike(turned_of(HOME), turned_of(HOME, "a")), False)
        self.assertIs(are_alike(turned_of(give("home", name("a")), "a", "b"), turned_of(give("home", name("b")), "a", "b")), False)
        self.assertIs(are_alike(turned_of(give("home", name("a")), "a", "b"), turned_of(give("home", name("b")), "b", "a")), True)


if __name__ == "__main__":
    unittest.main()
