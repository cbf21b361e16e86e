import copy
import random
import unittest

from tests.makers import TurnedMaker
from tests.terms import less, name, num, plus, tell
from tests.turned_reference import is_turned_reference
from tests.turned_terms import (
    BENT,
    EVERY_PART,
    HOME,
    TWO_AND_FOUR,
    broad_part,
    fork,
    give,
    hand,
    held,
    letters,
    post,
    tells,
    told,
    turned_of,
)
from whatnext.turnedbooks import is_turned, turned_parts

ONE = num(1)
X = name("x")
KEPT = ("let", "be", "in", "tell", "if", "then", "else", "home")


class IsTurnedTest(unittest.TestCase):
    def yes(self, *things):
        self.tells(True, things)

    def no(self, *things):
        self.tells(False, things)

    def tells(self, expected, things):
        for thing in things:
            with self.subTest(thing=str(thing)[:90]):
                self.assertIs(is_turned(thing), expected)
                self.assertIs(is_turned(thing), expected)

    def bodies(self, expected, *bodies):
        """Each body by itself, and as the second errand's, names being a and b."""
        self.tells(expected, [turned_of(body, "a", "b") for body in bodies])
        first = ("g", (), HOME)
        self.tells(expected, [(first, ("f", ("a", "b"), body)) for body in bodies])


class TurnedBooksTest(IsTurnedTest):
    def test_straight_and_bent_ones(self):
        six = tuple((f, (), HOME) for f in "abcdef")
        self.yes(EVERY_PART, BENT, six, turned_of(HOME, "a", "b", "c", "d"), TWO_AND_FOUR)
        self.yes(turned_of(give("home", num(0))), turned_of(give("home", num(999))))

    def test_an_ask_of_as_many_as_may_be(self):
        self.yes(turned_of(hand("f", name("d"), name("c"), name("b"), name("a")), "a", "b", "c", "d"))
        self.yes(turned_of(hand("f")))

    def test_words_that_other_things_have_too(self):
        self.yes((("f", ("f",), hand("g", name("f"))), ("g", ("f",), held("g", ONE, give("home", name("g"))))))
        self.yes((("f", ("x",), HOME), ("g", (), post("j", "x", HOME, HOME)), ("h", (), post("j", "x", HOME, HOME))))
        self.yes(turned_of(post("give", "post", give("home", name("post")), give("give", ONE)), "number"))

    def test_a_book_that_is_not_turned(self):
        for body in (ONE, plus(ONE, ONE), tell(ONE), ("let", "x", ONE, ONE), ("if", ONE, ONE, ONE), ("ask", "f", ())):
            self.no(turned_of(body))


class ShapeTest(IsTurnedTest):
    def test_of_anything_else(self):
        many = [0] * 9999
        self.no(None, True, False, 0, 5, "", "f", (), [], {}, {"f": ((), HOME)}, many, tuple(many), HOME)

    def test_how_many_errands(self):
        self.yes(tuple((f, (), HOME) for f in "abcdef"))
        self.no(tuple((f, (), HOME) for f in "abcdefg"))
        self.no(())

    def test_errands_made_otherwise(self):
        self.no(
            ("f", (), HOME),
            [("f", (), HOME)],
            (["f", (), HOME],),
            ({"f": HOME},),
            (("f", [], HOME),),
            (("f", {}, HOME),),
            (("f", None, HOME),),
            (("f", "ab", HOME),),
            (("f", ()),),
            (("f", (), HOME, HOME),),
            ((),),
            (None,),
            (("f", (), HOME), None),
            (("f", ("a", "b", "c", "d", "e"), HOME),),
        )

    def test_parts_that_are_none(self):
        nones = (
            None, True, 3, "x", "home", (), [], {}, ["give", "home", ONE], {"give": ONE},
            (1, 2, 3), (None, "home", ONE), (True, "home", ONE), (["give"], "home", ONE), (("give",), "home", ONE),
            ({}, "home", ONE), ONE, X, plus(ONE, ONE),
            ("give",), ("give", "home"), ("give", "home", ONE, ONE),
            ("ask", "f", ()), ("ask", "f", (), "home", "home"),
            ("tell", "x", ONE), ("tell", "x", ONE, HOME, HOME), ("tell", ONE),
            ("let", "x", ONE), ("let", "x", ONE, HOME, HOME), ("let", "x", ONE, ONE),
            ("if", ONE, HOME), ("if", ONE, HOME, HOME, HOME), ("if", ONE, ONE, ONE),
            ("post", "j", "x", HOME), ("post", "j", "x", HOME, HOME, HOME), ("post", "j", HOME, HOME),
            ("", "home", ONE), ("number", "home", ONE), ("home", "home", ONE),
        )
        for bad in nones:
            self.no(
                turned_of(bad),
                turned_of(told("x", ONE, bad)),
                turned_of(held("x", ONE, bad)),
                turned_of(fork(ONE, bad, HOME)),
                turned_of(fork(ONE, HOME, bad)),
                turned_of(post("j", "x", bad, HOME)),
                turned_of(post("j", "x", HOME, bad)),
                (("f", (), HOME), ("g", (), bad)),
            )

    def around_simple(self, term):
        """Turned books of one errand with two names, the term in each place that one may have."""
        return [
            turned_of(body, "a", "b")
            for body in (
                give("home", term),
                hand("f", term, ONE),
                hand("f", ONE, term),
                told("x", term, HOME),
                held("x", term, HOME),
                fork(term, HOME, HOME),
                give("home", plus(term, ONE)),
                give("home", less(ONE, term)),
                give("home", plus(less(ONE, term), ONE)),
            )
        ]

    def test_simple_terms_that_are_none(self):
        self.yes(*self.around_simple(ONE), *self.around_simple(less(name("a"), plus(name("b"), ONE))))
        for bad in (
            None, True, 5, "a", (), [], {}, ["number", 1], ("number",), ("number", 1, 1), ("name",), ("name", "a", "a"),
            ("plus", ONE), ("plus", ONE, ONE, ONE), ("less", ONE), ("less", ONE, ONE, ONE), (1, 1), (["number"], 1),
            ("tell", ONE), ("let", "y", ONE, ONE), ("if", ONE, ONE, ONE), ("ask", "g", ()), ("ask", "f", (ONE, ONE)),
            HOME, hand("f", ONE, ONE), ["plus", ONE, ONE], {"number": 1},
        ):
            self.no(*self.around_simple(bad))

    def test_numbers_that_are_none(self):
        self.yes(*self.around_simple(num(0)), *self.around_simple(num(999)))
        for n in (-1, 1000, 10**20, True, False, None, "1", "", (1,), [1], {1: 1}):
            self.no(*self.around_simple(num(n)))

    def test_names_that_are_no_words(self):
        for word in ("", "A", "abcdefghi", "let", "home", None, 0, True, ("a",), ["a"], {"a": "a"}):
            self.no(*self.around_simple(name(word)))

    def test_words_that_are_none(self):
        for word in ("", "abcdefghi", "A", "a1", "a b", "a\n", *KEPT, None, 0, True, (), ("a",), ["a"], {"a": "a"}):
            self.no(
                ((word, (), HOME),),
                turned_of(HOME, word),
                turned_of(HOME, "a", word),
                turned_of(told(word, ONE, HOME)),
                turned_of(held(word, ONE, HOME)),
                turned_of(post(word, "x", HOME, HOME)),
                turned_of(post("j", word, HOME, HOME)),
                turned_of(("ask", word, (), "home")),
            )
            if word != "home":
                self.no(turned_of(give(word, ONE)), turned_of(("ask", "f", (), word)))

    def test_words_of_eight_signs(self):
        word = "abcdefgh"
        self.yes(
            turned_of(post(word, "x", HOME, give(word, ONE))),
            turned_of(post("j", word, give("home", name(word)), HOME)),
            turned_of(told(word, ONE, HOME)),
            turned_of(held(word, ONE, HOME), "hgfedcba"),
            ((word, (), hand(word)),),
        )

    def test_terms_of_an_ask_in_other_things_than_a_tuple(self):
        for terms in ([], {}, None, "", "ab", 0, True, [ONE], ONE):
            self.no(turned_of(("ask", "f", terms, "home")), turned_of(("ask", "f", terms, "home"), "a"))
        self.no(turned_of(("ask", "f", (ONE,) * 5, "home"), "a", "b", "c", "d"))


class WordsTest(IsTurnedTest):
    def test_errands_of_one_name(self):
        self.no((("f", (), HOME), ("f", ("a",), HOME)))
        self.no((("f", (), HOME), ("g", (), HOME), ("f", (), HOME)))

    def test_a_word_twice_among_the_names(self):
        self.no(turned_of(HOME, "a", "a"), turned_of(HOME, "a", "b", "c", "a"))

    def test_a_word_twice(self):
        makers = (
            lambda t: told("x", ONE, t),
            lambda t: held("x", ONE, t),
            lambda t: post("i", "x", t, HOME),
            lambda t: post("k", "x", HOME, t),
        )
        for first in makers:
            self.no(turned_of(first(HOME), "x"), turned_of(first(HOME), "a", "x"))
            self.yes((("g", ("x",), HOME), ("f", (), first(HOME))), (("g", (), first(HOME)), ("f", (), first(HOME))))
            for second in makers:
                inner = second(HOME)
                if inner[0] == "post":
                    inner = ("post", "l", *inner[2:])
                self.no(
                    turned_of(first(inner)),
                    turned_of(fork(ONE, first(HOME), inner)),
                    turned_of(post("j", "y", first(HOME), inner)),
                    (("g", (), HOME), ("f", (), fork(ONE, inner, first(HOME)))),
                )

    def test_the_word_of_a_post_twice(self):
        one, two = post("j", "x", HOME, HOME), post("j", "y", HOME, HOME)
        self.no(
            turned_of(fork(ONE, one, two)),
            turned_of(post("j", "z", one, HOME)),
            turned_of(post("j", "z", HOME, one)),
            turned_of(post("k", "z", one, two)),
        )
        self.yes((("f", (), one), ("g", (), two)), turned_of(post("k", "z", one, ("post", "l", *two[2:]))))

    def test_the_word_of_a_post_that_is_another_word_too(self):
        self.yes(
            turned_of(post("a", "x", HOME, give("a", name("a"))), "a"),
            turned_of(post("x", "x", give("home", X), give("x", ONE))),
            turned_of(post("y", "x", held("y", X, give("home", name("y"))), give("y", ONE))),
            turned_of(post("f", "g", HOME, give("f", ONE))),
        )

    def test_a_name_whose_word_is_not_around(self):
        x = give("home", X)
        self.no(
            turned_of(x),
            turned_of(x, "a", "b"),
            turned_of(give("home", plus(ONE, less(X, ONE)))),
            turned_of(give("home", name("f"))),
            turned_of(hand("f", X), "a"),
            turned_of(fork(X, HOME, HOME)),
            turned_of(told("x", X, HOME)),
            turned_of(held("x", X, HOME)),
            turned_of(held("x", plus(ONE, X), x)),
            turned_of(fork(ONE, held("x", ONE, x), x)),
            turned_of(fork(ONE, x, told("x", ONE, x))),
            turned_of(post("j", "y", held("x", ONE, x), x)),
            turned_of(post("j", "y", x, held("x", ONE, x))),
            (("g", ("x",), HOME), ("f", (), x)),
            (("f", (), x), ("g", ("x",), HOME)),
            turned_of(post("x", "y", HOME, give("x", X))),
        )

    def test_x_of_a_post(self):
        use = (give("home", X), give("home", plus(ONE, X)), hand("f", X), held("y", X, HOME), fork(ONE, HOME, give("home", X)))
        for part in use:
            self.yes(turned_of(post("j", "x", part, HOME), "a"))
            self.no(turned_of(post("j", "x", HOME, part), "a"))
        self.no(turned_of(post("j", "x", HOME, give("j", X))))
        self.yes(turned_of(post("j", "x", post("k", "z", HOME, give("k", X)), HOME)))

    def test_names_that_are_around(self):
        x = give("home", X)
        self.yes(
            turned_of(x, "x"),
            turned_of(held("x", ONE, x)),
            turned_of(told("x", ONE, x)),
            turned_of(held("x", ONE, fork(X, x, told("y", X, x)))),
            # What is around a post is around in both its parts.
            turned_of(held("x", ONE, post("j", "y", x, x))),
            turned_of(post("j", "y", x, give("j", X)), "x"),
            turned_of(post("j", "x", post("k", "y", x, x), HOME)),
        )

    def test_a_hand_on_that_is_not_around(self):
        for use in (give("j", ONE), hand("f", to="j")):
            self.no(
                turned_of(use),
                turned_of(post("j", "x", use, HOME)),
                turned_of(post("j", "x", held("y", ONE, use), HOME)),
                turned_of(post("j", "x", post("k", "y", HOME, use), HOME)),
                turned_of(fork(ONE, post("j", "x", HOME, use), use)),
                turned_of(fork(ONE, use, post("j", "x", HOME, use))),
                turned_of(post("k", "x", post("j", "y", HOME, HOME), use)),
                turned_of(post("k", "j", use, HOME)),
                (("g", (), post("j", "x", HOME, HOME)), ("f", (), use)),
                turned_of(held("j", ONE, use)),
            )
            self.yes(
                turned_of(post("j", "x", HOME, use)),
                turned_of(post("j", "x", HOME, told("y", ONE, use))),
                turned_of(post("j", "x", HOME, fork(ONE, use, use))),
                # What is around a post is around in both its parts.
                turned_of(post("j", "x", HOME, post("k", "y", use, use))),
                turned_of(post("j", "x", HOME, post("k", "y", use, HOME))),
            )

    def test_a_name_of_an_errand_is_no_hand_on(self):
        self.no(turned_of(give("a", ONE), "a"), turned_of(give("f", ONE)), turned_of(held("y", ONE, give("y", ONE))))

    def test_home_is_around_everywhere(self):
        self.bodies(True, post("j", "x", HOME, HOME), post("j", "x", hand("f", ONE, ONE), held("y", ONE, HOME)))

    def test_asks(self):
        one = (ONE,)
        self.no(
            turned_of(hand("g")),
            turned_of(hand("a"), "a"),
            turned_of(hand("f", ONE)),
            turned_of(hand("f"), "a"),
            turned_of(hand("f", ONE, ONE, ONE), "a", "b"),
            turned_of(held("y", ONE, post("j", "x", HOME, hand("g", to="j")))),
            turned_of(post("j", "x", hand("g"), HOME)),
            (("f", (), hand("g")), ("g", ("a",), HOME)),
            (("f", (), HOME), ("g", ("a",), hand("f", *one))),
            turned_of(post("g", "x", HOME, hand("g", to="g"))),
        )
        self.yes((("f", ("a",), hand("g")), ("g", (), hand("f", ONE))))


class GreatTest(IsTurnedTest):
    def of_parts(self, parts):
        book = (("f", (), broad_part(parts)), *TWO_AND_FOUR)
        self.assertEqual(count(book[0][2]), parts)
        return book

    def test_how_many_parts(self):
        self.yes(self.of_parts(119), self.of_parts(120))
        self.no(self.of_parts(121), self.of_parts(122))

    def test_simple_terms_are_counted(self):
        sums = ONE
        for k in range(30):
            sums = plus(sums, ONE)
        # Two of these have 61 terms each, and there is what stands around them.
        self.no(turned_of(held("x", sums, give("home", sums))))
        self.yes(turned_of(held("x", sums, give("home", sums[1][1]))))
        self.assertEqual(count(held("x", sums, give("home", sums[1][1]))), 120)
        self.no(turned_of(held("x", sums, told("y", ONE, give("home", sums[1][1])))))

    def test_each_sort_is_counted(self):
        for part, parts in (
            (told("x", ONE, HOME), 4),
            (held("x", ONE, HOME), 4),
            (post("j", "x", HOME, HOME), 5),
            (fork(ONE, HOME, HOME), 6),
            (hand("four", ONE, ONE, ONE, ONE), 5),
            (give("home", less(ONE, ONE)), 4),
        ):
            # The two stand beside one another in an if, which has a number.
            for more, expected in ((0, True), (1, False)):
                body = fork(ONE, broad_part(118 - parts + more), part)
                self.assertEqual(count(body), 120 + more)
                self.assertIs(is_turned((("f", (), body), *TWO_AND_FOUR)), expected)

    def test_each_errand_by_itself(self):
        small, great = self.of_parts(120)[0], self.of_parts(121)[0]
        self.yes((small, ("g", (), small[2]), *TWO_AND_FOUR))
        self.no((small, ("g", (), great[2]), *TWO_AND_FOUR), (("g", (), HOME), great, *TWO_AND_FOUR))

    def test_how_many_around(self):
        # The number in the innermost give stands within one more than the give.
        self.yes(turned_of(tells(38)), turned_of(tells(39)))
        self.no(turned_of(tells(40)), turned_of(tells(41)), (("g", (), HOME), ("f", (), tells(40))))

    def test_around_by_every_sort(self):
        makers = (
            lambda k, t: held(letters(k), ONE, t),
            lambda k, t: fork(ONE, t, hand("f")),
            lambda k, t: fork(ONE, hand("f"), t),
            lambda k, t: post(letters(k), letters(k), t, hand("f")),
            lambda k, t: post(letters(k), letters(k), hand("f"), t),
        )
        for make in makers:
            body = hand("f")
            for k in range(40):
                body = makers[-1](k, body) if k < 20 else make(k, body)
            # The ask that is innermost stands within 40 others, and then within 41.
            self.assertLess(count(body), 118)
            self.assertIs(is_turned(turned_of(body)), True)
            self.assertIs(is_turned(turned_of(make(40, body))), False)

    def test_around_a_simple_term(self):
        sums = ONE
        for k in range(39):
            sums = less(ONE, sums)
        self.yes(turned_of(give("home", sums)))
        self.no(turned_of(give("home", plus(sums, ONE))), turned_of(give("home", plus(ONE, sums))))

    def test_far_within_one_another_and_many(self):
        self.no(turned_of(tells(200)))
        sums = ONE
        for k in range(200):
            sums = plus(sums, ONE)
        self.no(turned_of(give("home", sums)), turned_of(fork(sums, HOME, HOME)))
        self.no((("f", (), broad_part(3000)), *TWO_AND_FOUR))
        for made in (lambda t: (t,), lambda t: [t], lambda t: {"a": t}, lambda t: ("give", "home", t), lambda t: ("f", (), t)):
            thing = HOME
            for k in range(200):
                thing = made(thing)
            self.no(thing, turned_of(thing), turned_of(give("home", thing)), turned_of(HOME, thing), ((thing, (), HOME),))
            self.no(turned_of(("give", thing, ONE)), turned_of(("ask", "f", (), thing)), turned_of((thing, "x", ONE, HOME)))


def count(part):
    return 1 + sum(count(one) for one in turned_parts(part))


class HandedInTest(IsTurnedTest):
    def test_nothing_is_changed(self):
        for thing in ([1, [2], {"a": [3]}], (("f", [], HOME),), turned_of(["give", "home", ONE]), EVERY_PART):
            before = copy.deepcopy(thing)
            is_turned(thing)
            self.assertEqual(thing, before)


class ByReferenceTest(unittest.TestCase):
    def test_many_turned_books(self):
        for seed in range(300):
            book = TurnedMaker(seed).book()
            self.assertIs(is_turned_reference(book), True)
            self.assertIs(is_turned(book), True)

    def test_many_things_that_are_changed_somewhere(self):
        chance = random.Random(5)
        seen = {True: 0, False: 0}
        for seed in range(4000):
            thing = changed(TurnedMaker(seed, 12).book(), chance)
            expected = is_turned_reference(thing)
            self.assertIs(is_turned(thing), expected, thing)
            seen[expected] += 1
        self.assertGreater(seen[True], 500)
        self.assertGreater(seen[False], 500)


def changed(thing, chance):
    """The thing with one of what is in it changed, left out, put in once more or put elsewhere."""
    if isinstance(thing, tuple) and thing and chance.random() < 0.93:
        k = chance.randrange(len(thing))
        way = chance.random()
        if way < 0.96:
            return (*thing[:k], changed(thing[k], chance), *thing[k + 1 :])
        if way < 0.97:
            return (*thing[:k], *thing[k + 1 :])
        if way < 0.98:
            return (*thing[:k], thing[k], *thing[k:])
        return list(thing)
    if isinstance(thing, str):
        return chance.choice(["home", "a", "b", "c", "f", "g", "k", "l", "m", "x", "j", "if", "give", "ask", "tell", "let", "plus"])
    if isinstance(thing, int):
        return chance.choice([0, 999, 1000, -1, True, "a"])
    return chance.choice([ONE, HOME, hand("f"), name("a"), name("k"), name("l"), give("a", ONE), give("k", ONE), (), None])


if __name__ == "__main__":
    unittest.main()
