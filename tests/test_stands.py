import copy
import unittest

from tests.makers import TurnedMaker
from tests.stands_reference import Behind, cards_reference, is_stand_reference, size
from tests.terms import less, name, num, plus
from tests.turned_terms import BENT, EVERY_PART, HOME, fork, give, hand, held, post, told, turned_of
from whatnext.stands import behind, cards, is_stand
from whatnext.turnedbooks import is_turned
from whatnext.turnedruns import run_turned

ONE = num(1)
A, B, X, Y, Z = name("a"), name("b"), name("x"), name("y"), name("z")

# Its cards: 0 at f, 1 in the T of that; 2 and 3 in g, one in the U of the other.
MANY = (
    (
        "f",
        ("a", "b"),
        post(
            "j",
            "x",
            told("y", plus(X, A), fork(Y, give("home", Y), post("k", "z", give("home", plus(Z, B)), hand("h", to="k")))),
            hand("g", A, to="j"),
        ),
    ),
    (
        "g",
        ("c",),
        held(
            "d",
            less(name("c"), ONE),
            post("i", "e", give("home", name("e")), post("k", "u", fork(name("u"), give("i", name("d")), hand("g", ONE)), hand("h", to="k"))),
        ),
    ),
    ("h", (), give("home", num(5))),
)
CARDS = [
    (("f",), "x", ("a", "b"), ("home",)),
    (("f", 0, 1, 2), "z", ("b",), ("home",)),
    (("g", 1), "e", (), ("home",)),
    (("g", 1, 1), "u", ("d",), ("home", "i")),
]
# A hand-on of each of these cards.
H0 = (0, (3, 999), ((),))
H1 = (1, (0,), (H0,))
H2 = (2, (), (H1,))
H3 = (3, (7,), ((), H2))


class CardsTest(unittest.TestCase):
    def card(self, post_made, *card):
        """The card, but its place, of a post that has around it names a, b and hand-ons home, i."""
        turned = (*turned_of(post("i", "w", HOME, post_made), "a", "b"), ("h", (), HOME), ("two", ("a", "b"), HOME))
        self.assertIs(is_turned(turned), True)
        self.assertEqual(cards(turned)[1], (("f", 1), *card))

    def test_numbers_by_errands_and_places(self):
        self.assertIs(is_turned(MANY), True)
        self.assertEqual(cards(MANY), CARDS)
        turned = (MANY[1], MANY[2], MANY[0])
        self.assertEqual(cards(turned), [CARDS[2], CARDS[3], CARDS[0], CARDS[1]])

    def test_none(self):
        self.assertEqual(cards(turned_of(HOME)), [])

    def test_every_part(self):
        self.assertEqual(cards(EVERY_PART), [(("f",), "x", ("a",), ("home",))])
        self.assertEqual(cards(BENT), [(("f",), "x", (), ("home",))])

    def test_names(self):
        ask_to = hand("h", to="j")
        self.card(post("j", "x", give("home", ONE), ask_to), "x", (), ("home",))
        self.card(post("j", "x", give("home", X), ask_to), "x", (), ("home",))
        self.card(post("j", "x", give("home", plus(B, plus(A, B))), ask_to), "x", ("a", "b"), ("home",))
        self.card(post("j", "x", give("home", less(plus(X, B), X)), ask_to), "x", ("b",), ("home",))
        self.card(post("j", "x", hand("two", B, ONE), ask_to), "x", ("b",), ("home",))
        self.card(post("j", "x", fork(B, give("home", A), HOME), ask_to), "x", ("a", "b"), ("home",))

    def test_names_given_within_t(self):
        ask_to = hand("h", to="j")
        self.card(post("j", "x", held("y", A, give("home", plus(Y, X))), ask_to), "x", ("a",), ("home",))
        self.card(post("j", "x", told("y", B, give("home", plus(Y, X))), ask_to), "x", ("b",), ("home",))
        inner = post("k", "y", told("z", plus(Y, A), give("home", Z)), held("v", B, give("k", plus(name("v"), X))))
        self.card(post("j", "x", inner, ask_to), "x", ("a", "b"), ("home",))

    def test_u_does_not_count(self):
        used = told("y", plus(A, B), fork(Y, hand("h", to="j"), fork(A, give("i", B), HOME)))
        self.card(post("j", "x", give("home", X), used), "x", (), ("home",))
        self.card(post("j", "x", give("i", X), used), "x", (), ("i",))

    def test_hands(self):
        ask_to = hand("h", to="j")
        self.card(post("j", "x", give("i", ONE), ask_to), "x", (), ("i",))
        self.card(post("j", "x", hand("h", to="i"), ask_to), "x", (), ("i",))
        self.card(post("j", "x", hand("h"), ask_to), "x", (), ("home",))
        self.card(post("j", "x", fork(X, give("i", ONE), fork(A, HOME, hand("h", to="i"))), ask_to), "x", ("a",), ("home", "i"))

    def test_hands_made_within_t(self):
        ask_to = hand("h", to="j")
        self.card(post("j", "x", post("k", "y", HOME, hand("h", to="k")), ask_to), "x", (), ("home",))
        self.card(post("j", "x", post("k", "y", give("i", Y), give("k", A)), ask_to), "x", ("a",), ("i",))

    def test_sorted_by_words(self):
        inner = give("z", plus(name("n"), plus(name("mm"), name("m"))))
        body = held("n", ONE, held("mm", ONE, held("m", ONE, post("z", "x", HOME, post("b", "y", fork(Y, inner, fork(Y, HOME, give("a", ONE))), HOME)))))
        turned = turned_of(post("a", "w", HOME, body))
        self.assertIs(is_turned(turned), True)
        self.assertEqual(cards(turned)[2], (("f", 1, 1, 1, 1, 1), "y", ("m", "mm", "n"), ("a", "home", "z")))

    def test_a_word_and_a_hand_on_may_be_the_same(self):
        turned = turned_of(post("a", "b", give("home", A), post("b", "x", give("a", plus(A, X)), hand("f", A, to="b"))), "a")
        self.assertIs(is_turned(turned), True)
        self.assertEqual(cards(turned), [(("f",), "b", ("a",), ("home",)), (("f", 1), "x", ("a",), ("a",))])

    def test_a_told_list_is_the_askers_own(self):
        cards(MANY).clear()
        self.assertEqual(cards(MANY), CARDS)

    def test_by_reference(self):
        for seed in range(500):
            turned = TurnedMaker(seed).book()
            self.assertEqual(cards(turned), cards_reference(turned))


def within(many, by_first):
    """A hand-on of card 3 with so many within one another by its first hand, or by its second."""
    hand_on = ()
    for _ in range(many):
        hand_on = (3, (1,), (hand_on, ()) if by_first else ((), hand_on))
    return hand_on


class IsStandTest(unittest.TestCase):
    def tells(self, expected, *things):
        for thing in things:
            with self.subTest(thing=str(thing)[:100]):
                self.assertIs(is_stand(MANY, thing), expected)

    def hand_ons(self, expected, *things):
        for thing in things:
            self.tells(expected, ("give", 0, thing), ("ask", "g", (3,), thing), ("give", 0, (2, (), (thing,))))
            self.tells(expected, ("give", 0, (3, (0,), (thing, ()))), ("give", 0, (3, (0,), ((), thing))))

    def test_stands(self):
        for hand_on in ((), H0, H1, H2, H3):
            self.tells(True, ("give", 0, hand_on), ("give", 999, hand_on))
            self.tells(True, ("ask", "f", (0, 999), hand_on), ("ask", "g", (1,), hand_on), ("ask", "h", (), hand_on))
        self.hand_ons(True, (), H0, H1, H2, H3)

    def test_numbers_that_are_none(self):
        for n in (True, False, -1, 1000, "1", None, (1,), [], "", {}):
            self.tells(False, ("give", n, ()), ("ask", "g", (n,), ()), ("ask", "f", (1, n), ()))
            self.hand_ons(False, (0, (n, 1), ((),)), (0, (1, n), ((),)), (1, (n,), ((),)))

    def test_card_numbers_that_are_none(self):
        self.hand_ons(True, (2, (), ((),)), (1, (1,), ((),)))
        self.hand_ons(False, *[(k, (1,), ((),)) for k in (True, -1, -3, 4, 1000, None, "1", (1,), [1], 2, 0)])
        self.hand_ons(False, (False, (1, 2), ((),)), (-4, (1, 2), ((),)), (-2, (), ((),)))

    def test_lists_for_tuples(self):
        self.tells(False, ["give", 1, ()], ["ask", "h", (), ()], ("give", 1, []), ("ask", "h", (), []), ("ask", "h", [], ()))
        self.tells(False, ("ask", "g", [1], ()), ("ask", "g", {1: 1}, ()))
        self.hand_ons(False, [], [2, (), ((),)], (2, [], ((),)), (2, (), [()]), (1, [1], ((),)), (2, (), ([],)))
        self.hand_ons(False, {}, (2, {}, ((),)), (2, (), {(): ()}), (2, (), "a"), (2, "", ((),)), (1, "a", ((),)))

    def test_an_f_of_no_errand(self):
        for f in ("i", "", "F", "home", "give", None, 1, ("h",), ["h"], {}, True):
            self.tells(False, ("ask", f, (), ()))

    def test_numbers_too_many_or_too_few(self):
        self.tells(False, ("ask", "f", (), ()), ("ask", "f", (1,), ()), ("ask", "f", (1, 2, 3), ()), ("ask", "h", (1,), ()))
        self.hand_ons(False, (0, (1,), ((),)), (0, (1, 2, 3), ((),)), (1, (), ((),)), (2, (0,), ((),)))

    def test_hands_too_many_or_too_few(self):
        self.hand_ons(False, (2, (), ()), (2, (), ((), ())), (3, (1,), ((),)), (3, (1,), ((), (), ())), (3, (1,), ()))

    def test_items_too_many_or_too_few(self):
        self.tells(False, (), ("give",), ("give", 1), ("give", 1, (), ()), ("ask", "h", ()), ("ask", "h", (), (), ()))
        self.tells(False, ("ask",), ("ask", "h"), ("give", 1, 1, ()), ("give", (), ()))
        self.hand_ons(False, (2, ()), (2,), (2, (), ((),), ()), ((),))

    def test_sorts_that_are_none(self):
        self.tells(False, *[(sort, 1, ()) for sort in ("tell", "gives", "", "ask", 0, None, True, ("give",), ["give"], {})])
        self.tells(False, *[(sort, "h", (), ()) for sort in ("asks", "give", "post", 1, None, ["ask"])])

    def test_other_things(self):
        deep = ()
        for k in range(204):
            deep = (deep,) if k % 2 else [deep]
        self.tells(False, None, True, False, 0, "", "give", "ask", [], {}, {"give": 1}, deep, ("give", 1, deep), (deep, 1, ()))
        self.tells(False, (1,) * 9999, ("give", 1, (1,) * 9990), ["give"] * 9999)
        self.hand_ons(False, None, 0, 1, "", "end", True, (None,), (None, None, None))

    def test_sixty_within_one_another(self):
        for by_first in (True, False):
            for many, expected in ((1, True), (59, True), (60, True), (61, False), (62, False), (100, False)):
                hand_on = within(many, by_first)
                self.tells(expected, ("give", 1, hand_on), ("ask", "h", (), hand_on))

    def test_what_is_most_within_one_another_counts(self):
        for hands in ((within(59, True), within(59, False)), (within(59, True), ()), ((), within(59, True))):
            self.tells(True, ("give", 1, (3, (1,), hands)))
        for hands in ((within(60, True), within(2, False)), (within(2, True), within(60, False))):
            self.tells(False, ("give", 1, (3, (1,), hands)))
        # As many in all, but not within one another.
        self.tells(True, ("give", 1, (3, (1,), (within(40, True), within(40, False)))))

    def test_a_book_without_posts(self):
        turned = turned_of(HOME)
        self.assertIs(is_stand(turned, ("give", 1, ())), True)
        self.assertIs(is_stand(turned, ("ask", "f", (), ())), True)
        self.assertIs(is_stand(turned, ("give", 1, (0, (), ()))), False)
        self.assertIs(is_stand(turned, ("give", 1, (0, (), ((),)))), False)

    def test_a_card_without_hands_has_a_hand_on_without_any(self):
        # There is no such card in a turned book: each T gives or asks. One with only i is.
        turned = turned_of(post("i", "w", HOME, post("j", "x", give("i", X), hand("f", to="j"))))
        self.assertEqual([card[3] for card in cards(turned)], [("home",), ("i",)])
        self.assertIs(is_stand(turned, ("give", 1, (1, (), ((),)))), True)
        self.assertIs(is_stand(turned, ("give", 1, (1, (), ((0, (), ((),)),)))), True)

    def test_nothing_is_changed(self):
        thing = ["give", [1, {}], ("ask", "g", [3], H3)]
        before = copy.deepcopy(thing)
        is_stand(MANY, thing)
        is_stand(MANY, tuple(thing))
        self.assertEqual(thing, before)


class BehindTest(unittest.TestCase):
    def tells(self, turned, stand, told_on_the_way, expected):
        self.assertIs(is_turned(turned), True)
        self.assertIs(is_stand(turned, stand), True)
        got = behind(turned, stand)
        self.assertEqual(got, (told_on_the_way, expected))
        self.assertIs(type(got), tuple)
        self.assertIs(type(got[0]), list)
        self.assertIs(is_stand(turned, got[1]), True)

    def body(self, body, numbers, told_on_the_way, expected):
        """Asked, f with names a and b; the same behind the end and behind another hand-on."""
        turned = (*turned_of(body, "a", "b"), ("h", (), HOME), ("two", ("c", "d"), HOME), post_to_have())
        at = len(cards(turned)) - 1
        for home in ((), (at, (4,), ((),)), (at, (5,), ((at, (6,), ((),)),))):
            put = (lambda one: tuple(home if item == "HOME" else put(item) if isinstance(item, tuple) else item for item in one))
            self.tells(turned, ("ask", "f", numbers, home), told_on_the_way, put(expected))

    def test_an_ask_that_is_done_till_it_gives(self):
        self.body(give("home", plus(A, B)), (3, 4), [], ("give", 7, "HOME"))
        self.body(give("home", less(A, B)), (3, 5), [], ("give", 998, "HOME"))
        self.body(give("home", num(0)), (3, 5), [], ("give", 0, "HOME"))

    def test_an_ask_that_is_done_till_it_asks(self):
        self.body(hand("two", B, plus(A, ONE)), (3, 5), [], ("ask", "two", (5, 4), "HOME"))
        self.body(hand("h"), (3, 5), [], ("ask", "h", (), "HOME"))
        self.body(hand("f", B, A), (3, 5), [], ("ask", "f", (5, 3), "HOME"))

    def test_lets_and_ifs(self):
        self.body(held("x", plus(A, ONE), held("y", plus(X, X), give("home", Y))), (3, 5), [], ("give", 8, "HOME"))
        body = fork(A, give("home", ONE), hand("h"))
        self.body(body, (1, 0), [], ("give", 1, "HOME"))
        self.body(body, (0, 1), [], ("ask", "h", (), "HOME"))

    def test_tells_on_the_way(self):
        body = told("x", plus(A, ONE), held("y", X, fork(B, told("z", plus(X, Y), hand("two", Z, Y)), told("v", B, HOME))))
        self.body(body, (3, 1), [4, 8], ("ask", "two", (8, 4), "HOME"))
        self.body(body, (3, 0), [4, 0], ("give", 1, "HOME"))

    def test_posts(self):
        self.body(post("j", "x", give("home", plus(X, A)), hand("h", to="j")), (3, 1), [], ("ask", "h", (), (0, (3,), ("HOME",))))
        self.body(post("j", "x", give("home", plus(B, A)), give("j", A)), (3, 1), [], ("give", 3, (0, (3, 1), ("HOME",))))
        self.body(post("j", "x", hand("h"), hand("h")), (3, 1), [], ("ask", "h", (), "HOME"))
        # T of k hands on j and home.
        body = post("j", "x", give("home", X), held("z", plus(A, ONE), post("k", "y", fork(Z, give("j", Y), HOME), hand("h", to="k"))))
        self.body(body, (3, 1), [], ("ask", "h", (), (1, (4,), ("HOME", (0, (), ("HOME",))))))

    def test_a_word_around_a_post_and_one_within_it(self):
        # z is told in U ahead of the ask, and T of k, in U, knows it.
        body = post("j", "x", give("home", X), told("z", B, post("k", "y", told("v", Z, give("j", Y)), hand("h", to="k"))))
        self.body(body, (3, 9), [9], ("ask", "h", (), (1, (9,), ((0, (), ("HOME",)),))))

    def test_behind_gives(self):
        self.tells(MANY, ("give", 4, (0, (3, 999), ((),))), [7], ("give", 7, ()))
        self.tells(MANY, ("give", 4, (0, (3, 999), (H2,))), [7], ("give", 7, H2))
        self.tells(MANY, ("give", 997, (0, (3, 999), (H2,))), [0], ("ask", "h", (), (1, (999,), (H2,))))
        self.tells(MANY, ("give", 4, H1), [], ("give", 4, H0))
        self.tells(MANY, ("give", 4, H2), [], ("give", 4, H1))
        self.tells(MANY, ("give", 4, H3), [], ("give", 7, H2))
        self.tells(MANY, ("give", 0, H3), [], ("ask", "g", (1,), ()))
        self.tells(MANY, ("give", 0, (3, (7,), (H2, H0))), [], ("ask", "g", (1,), H2))

    def test_behind_asks_of_the_same(self):
        self.tells(MANY, ("ask", "f", (3, 4), H1), [], ("ask", "g", (3,), (0, (3, 4), (H1,))))
        self.tells(MANY, ("ask", "g", (0,), H1), [], ("ask", "h", (), (3, (999,), (H1, (2, (), (H1,))))))
        self.tells(MANY, ("ask", "h", (), H1), [], ("give", 5, H1))

    def test_nothing_behind_what_is_given_to_the_end(self):
        for n in (0, 1, 999):
            self.assertIsNone(behind(MANY, ("give", n, ())))

    def test_a_word_that_is_that_of_a_post_of_another_errand(self):
        turned = tuple((f, (), post("j", "x", told("y", plus(X, num(n)), HOME), hand("f", to="j"))) for f, n in (("f", 10), ("g", 20)))
        self.tells(turned, ("ask", "g", (), ()), [], ("ask", "f", (), (1, (), ((),))))
        self.tells(turned, ("give", 1, (1, (), ((),))), [21], ("give", 1, ()))
        self.tells(turned, ("give", 1, (0, (), ((),))), [11], ("give", 1, ()))

    def test_sixty_one_may_be_behind_sixty(self):
        stand = ("ask", "g", (1,), within(60, True))
        self.assertIs(is_stand(MANY, stand), True)
        told_on_the_way, got = behind(MANY, stand)
        self.assertEqual(got, ("ask", "h", (), (3, (0,), (within(60, True), (2, (), (within(60, True),))))))
        self.assertIs(is_stand(MANY, got), False)

    def test_a_told_list_is_the_askers_own(self):
        stand = ("give", 4, (0, (3, 999), ((),)))
        behind(MANY, stand)[0].append(1)
        self.assertEqual(behind(MANY, stand)[0], [7])
        behind(MANY, ("ask", "h", (), ()))[0].append(1)
        self.assertEqual(behind(MANY, ("ask", "h", (), ()))[0], [])

    def test_by_reference_and_by_runs(self):
        """Stand by stand, it is the run's trail and end."""
        made = ended = 0
        for seed in range(500):
            maker = TurnedMaker(seed)
            turned = maker.book()
            second = Behind(turned)
            f, numbers = maker.asking()
            stand, trail = ("ask", f, numbers, ()), []
            for _ in range(24):
                # Beyond this, more is handed in than is promised of.
                if (stand[0] == "give" and stand[2] == ()) or size(stand[-1], 1000) == 1000:
                    break
                if stand[0] == "ask":
                    trail.append(stand[:3])
                self.assertIs(is_stand(turned, stand), True)
                self.assertIs(is_stand_reference(turned, stand), True)
                got = behind(turned, stand)
                self.assertEqual(got, second.behind(stand))
                trail.extend(("tell", n) for n in got[0])
                stand = got[1]
                made += stand[-1] != ()
            asked = sum(one[0] == "ask" for one in trail)
            is_ended = stand[0] == "give" and stand[2] == ()
            expected = run_turned(turned, f, numbers, asked)
            if is_ended:
                self.assertEqual((trail, ("done", stand[1])), expected[:2])
                ended += 1
            else:
                self.assertEqual(trail, expected[0][: len(trail)])
        self.assertGreater(made, 1000)
        self.assertGreater(ended, 100)

    def test_stands_changed_somewhere(self):
        """Beside a second is_stand."""
        seen = {True: 0, False: 0}
        for seed in range(300):
            maker = TurnedMaker(seed, 20)
            turned = maker.book()
            second = Behind(turned)
            stand = ("ask", *maker.asking(), ())
            for _ in range(maker.chance.randint(0, 6)):
                stand = (second.behind(stand) or (0, stand))[1]
            for _ in range(12):
                thing = changed(stand, maker.chance)
                expected = is_stand_reference(turned, thing)
                self.assertIs(is_stand(turned, thing), expected, thing)
                seen[expected] += 1
        self.assertGreater(min(seen.values()), 400)


def changed(thing, chance):
    """The thing, with one thing in it changed."""
    if isinstance(thing, tuple) and thing and chance.random() < 0.8:
        at = chance.randrange(len(thing))
        return thing[:at] + (changed(thing[at], chance),) + thing[at + 1 :]
    others = [0, 1, 2, 3, 999, 1000, -1, True, None, "f", "g", "give", "ask", (), (1,), [], thing, (thing,)]
    if isinstance(thing, tuple):
        others += [list(thing), thing + (1,), thing + ((),), thing[1:], thing[:-1]]
    return chance.choice(others)


def post_to_have():
    """An errand with one post, so that its card is the book's last one."""
    return ("z", ("n",), post("j", "x", give("home", plus(X, name("n"))), hand("h", to="j")))


if __name__ == "__main__":
    unittest.main()
