import copy
import time
import unittest

from tests.makers import BookMaker, TurnedMaker
from tests.terms import less, name, num, plus
from tests.turned_terms import BENT, EVERY_PART, HOME, fork, give, hand, held, post, told, turned_of
from tests.waits_reference import asks_of, come_to, greatest_weight, row_weight, shows_most_reference, shows_ring_reference
from whatnext.errors import NextError, NoAsking
from whatnext.turnedbooks import is_turned
from whatnext.turnedruns import run_turned
from whatnext.turning import turn_book
from whatnext.waits import most_waiting, shows_most, shows_ring

ONE = num(1)
X = name("x")


def waits(f, then=None):
    """A part in which an ask of f hands on a post's j, at (1,) of it; then is T."""
    return post("j", "x", then or give("home", X), hand(f, to="j"))


def errand(f, *asks):
    """An errand that has these asks, each ("g", 1) or ("g", 0), the first at (f, 1), or at (f, 1, 1) where it weighs."""
    body = HOME
    for k, (g, weight) in reversed(list(enumerate(asks))):
        word = "abcdefgh"[k]
        one = post(word, word, give("home", name(word)), hand(g, to=word)) if weight else hand(g)
        body = fork(ONE, one, body)
    return f, (), body


def place_of(f, k, weight):
    return (f, *[2] * k, 1, *[1] * weight)


# f waits for g, g hands on home to h, h waits for i; k is come to by none of these.
ROW = (
    errand("f", ("g", 1), ("h", 0)),
    errand("g", ("h", 0)),
    errand("h", ("i", 1)),
    errand("i"),
    errand("k", ("f", 1)),
)
F_TO_G, F_TO_H = place_of("f", 0, 1), place_of("f", 1, 0)
G_TO_H, H_TO_I, K_TO_F = place_of("g", 0, 0), place_of("h", 0, 1), place_of("k", 0, 1)
ROW_LEVELS = {"f": 2, "g": 1, "h": 1, "i": 0}

# f hands on to g, g waits for h, h hands on to g.
RING = (
    errand("f", ("g", 0)),
    errand("g", ("h", 1), ("i", 1)),
    errand("h", ("g", 0)),
    errand("i"),
)
TO_G, TO_H, TO_I, BACK = place_of("f", 0, 0), place_of("g", 0, 1), place_of("g", 1, 1), place_of("h", 0, 0)


class MostWaitingTest(unittest.TestCase):
    def shown(self, turned, f):
        got = most_waiting(turned, f)
        self.assertIs(type(got), tuple)
        self.assertEqual(len(got), 3)
        head, first, second = got
        self.assertIs(type(first), list)
        if head == "most":
            self.assertIs(type(second), dict)
            self.assertIs(shows_most(turned, f, first, second), True)
            self.assertTrue(shows_most_reference(turned, f, first, second))
            for level in second.values():
                self.assertIs(type(level), int)
        else:
            self.assertEqual(head, "ring")
            self.assertIs(type(second), list)
            self.assertIs(shows_ring(turned, f, first, second), True)
            self.assertTrue(shows_ring_reference(turned, f, first, second))
        return got

    def most(self, turned, f, weight, levels=None):
        self.assertIs(is_turned(turned), True)
        head, row, got = self.shown(turned, f)
        self.assertEqual(head, "most")
        self.assertEqual(got[f], weight)
        self.assertEqual(row_weight(turned, f, row)[0], weight)
        self.assertEqual(greatest_weight(turned, f), weight)
        self.assertEqual(set(got), come_to(turned, f))
        if levels is not None:
            self.assertEqual(got, levels)

    def ring(self, turned, f):
        self.assertIs(is_turned(turned), True)
        head, lead, ring = self.shown(turned, f)
        self.assertEqual(head, "ring")
        self.assertIsNone(greatest_weight(turned, f))
        return lead, ring

    def test_an_errand_without_asks(self):
        self.assertEqual(most_waiting(turned_of(HOME), "f"), ("most", [], {"f": 0}))
        self.assertEqual(most_waiting(BENT, "f"), ("most", [], {"f": 0}))
        self.assertEqual(most_waiting(ROW, "i"), ("most", [], {"i": 0}))

    def test_a_row(self):
        for f, weight in (("f", 2), ("g", 1), ("h", 1), ("k", 3)):
            self.most(ROW, f, weight)
        self.assertEqual(most_waiting(ROW, "f")[1], [F_TO_G, G_TO_H, H_TO_I])
        self.assertEqual(most_waiting(ROW, "k")[1], [K_TO_F, F_TO_G, G_TO_H, H_TO_I])
        # Of the first row, all levels are bound.
        self.assertEqual(most_waiting(ROW, "f")[2], ROW_LEVELS)

    def test_levels_are_of_those_come_to_alone(self):
        self.assertEqual(set(most_waiting(ROW, "g")[2]), {"g", "h", "i"})
        self.assertEqual(set(most_waiting(ROW, "h")[2]), {"h", "i"})

    def test_every_part(self):
        # f waits for g, and g hands on to h.
        self.most(EVERY_PART, "f", 1)
        self.most(EVERY_PART, "g", 0, {"g": 0, "h": 0})
        self.assertEqual(most_waiting(EVERY_PART, "f")[1], [("f", 1, 1, 1)])

    def test_the_greatest_of_several_rows(self):
        # Over g and h two wait, over h one; over i, k and l, none of which weighs but the last ones, three.
        turned = (
            errand("f", ("i", 0), ("g", 1), ("h", 0)),
            errand("g", ("h", 0)),
            errand("h", ("l", 1)),
            errand("i", ("l", 0), ("k", 1)),
            errand("k", ("l", 1), ("h", 1)),
            errand("l"),
        )
        self.most(turned, "f", 3)
        self.assertEqual(most_waiting(turned, "f")[1], [place_of("f", 0, 0), place_of("i", 1, 1), place_of("k", 1, 1), place_of("h", 0, 1)])

    def test_the_heavier_of_two_asks_of_the_same(self):
        for asks in ((("g", 0), ("g", 1)), (("g", 1), ("g", 0))):
            self.most((errand("f", *asks), errand("g")), "f", 1)

    def test_asks_that_hand_on_home_alone(self):
        turned = (errand("f", ("g", 0), ("h", 0)), errand("g", ("h", 0)), errand("h"))
        self.most(turned, "f", 0, {"f": 0, "g": 0, "h": 0})

    def test_an_errand_that_asks_itself(self):
        self.most((errand("f", ("f", 0)),), "f", 0, {"f": 0})
        self.most((errand("f", ("f", 0), ("g", 1)), errand("g", ("g", 0))), "f", 1)
        self.assertEqual(self.ring((errand("f", ("f", 1)),), "f"), ([], [("f", 1, 1)]))
        self.ring((errand("f", ("f", 0), ("f", 1)),), "f")

    def test_rings_without_weight(self):
        turned = (errand("f", ("g", 0), ("h", 1)), errand("g", ("f", 0), ("i", 1)), errand("h"), errand("i", ("h", 1), ("i", 0)))
        self.most(turned, "f", 2)
        self.most(turned, "g", 2)
        self.assertEqual(most_waiting(turned, "f")[1], [place_of("f", 0, 0), place_of("g", 1, 1), place_of("i", 0, 1)])
        self.assertEqual(most_waiting(turned, "g")[1], [place_of("g", 1, 1), place_of("i", 0, 1)])

    def test_rings_with_and_without_a_lead(self):
        self.assertEqual(self.ring(RING, "g"), ([], [TO_H, BACK]))
        self.assertNotEqual(self.ring(RING, "f")[0], [])
        self.ring(RING, "h")
        self.most(RING, "i", 0)

    def test_any_ask_of_the_ring_may_weigh(self):
        for weighs in range(4):
            names = "fghi"
            turned = tuple(errand(f, (names[(k + 1) % 4], int(k == weighs))) for k, f in enumerate(names))
            for f in names:
                self.assertEqual(len(self.ring(turned, f)[1]), 4)
            # With a lead, too.
            self.ring((*turned, errand("e", ("h", 0))), "e")

    def test_a_ring_that_is_not_come_to(self):
        turned = (errand("f", ("g", 1)), errand("g"), errand("h", ("h", 1), ("f", 1)), errand("i", ("h", 0)))
        self.most(turned, "f", 1, {"f": 1, "g": 0})
        self.most(turned, "g", 0)
        self.ring(turned, "h")
        self.ring(turned, "i")

    def test_asks_in_t_and_in_u_and_where_no_run_comes(self):
        turned = (
            ("f", (), fork(num(0), post("j", "x", hand("g"), held("y", ONE, told("z", ONE, hand("h", to="j")))), HOME)),
            errand("g", ("h", 1)),
            errand("h"),
        )
        self.most(turned, "f", 1)
        turned = (turned[0], errand("g", ("f", 0)), errand("h", ("g", 0)))
        self.ring(turned, "f")

    def test_an_ask_weighs_where_the_post_is_around_but_not_right_ahead(self):
        turned = turned_of(post("j", "x", give("home", X), post("k", "y", hand("h", to="j"), HOME)))
        self.most((*turned, errand("h")), "f", 1)

    def test_an_errand_named_home_like(self):
        # A hand-on's word doesn't weigh by what else is called so.
        turned = (("f", (), post("f", "g", give("home", name("g")), hand("g", to="f"))), errand("g", ("g", 0)))
        self.most(turned, "f", 1)

    def test_rows_that_are_too_many_to_be_tried(self):
        names = "fghikl"
        asks = {f: [(g, w) for g in names[k + 1 :] for w in (0, 1)] for k, f in enumerate(names)}
        turned = tuple(errand(f, *asks[f][:8]) for f in names)
        self.most(turned, "f", 5)
        # Each errand asks each one, itself too, handing on home: the rows have no end.
        again = tuple(errand(f, *[(g, 0) for g in names]) for f in names)
        self.most(again, "f", 0)
        again = (errand("f", *[(g, 1) for g in names[1:]]), *tuple(errand(f, *[(g, 0) for g in names[1:]]) for f in names[1:]))
        self.most(again, "f", 1)
        body = hand("g")
        for k in range(38):
            body = fork(ONE, hand("g"), body)
        begun = time.process_time()
        self.most((("f", (), body), ("g", (), body), errand("h", ("f", 0))), "f", 0)
        self.assertLess(time.process_time() - begun, 5)

    def test_no_asking(self):
        for f in ("z", "", "home", "F", "ff", None):
            with self.subTest(f=f), self.assertRaises(NoAsking) as caught:
                most_waiting(ROW, f)
            self.assertIsInstance(caught.exception, NextError)

    def test_what_is_told_is_the_askers_own(self):
        for turned, f in ((ROW, "f"), (RING, "g"), (RING, "f"), (ROW, "i")):
            before, expected = copy.deepcopy(turned), most_waiting(turned, f)
            head, first, second = most_waiting(turned, f)
            first.clear()
            second.clear()
            self.assertEqual(most_waiting(turned, f), expected)
            self.assertEqual(turned, before)

    def test_by_reference(self):
        seen = {"most": 0, "ring": 0}
        for seed in range(800):
            maker = (BookMaker if seed % 2 else TurnedMaker)(seed, 8)
            turned = turn_book(maker.book()) if seed % 2 else maker.book()
            for f, names, body in turned:
                head, first, second = self.shown(turned, f)
                weight = greatest_weight(turned, f)
                self.assertEqual(head, "ring" if weight is None else "most")
                if head == "most":
                    self.assertEqual(second[f], weight)
                    numbers = tuple([2] * len(names))
                    for most in (1, 4, 100):
                        self.assertLessEqual(run_turned(turned, f, numbers, most)[2], weight)
                    seen["most"] += weight > 0
                else:
                    seen["ring"] += 1
        self.assertGreater(min(seen.values()), 150)

    def test_runs_come_to_the_weight(self):
        self.assertEqual(run_turned(ROW, "f", (), 50)[2], 2)
        n = name("n")
        turned = (
            ("f", ("n",), post("j", "x", give("home", plus(X, n)), hand("g", n, to="j"))),
            ("g", ("n",), fork(n, hand("g", less(n, ONE)), post("j", "x", give("home", X), hand("h", to="j")))),
            ("h", (), HOME),
        )
        self.most(turned, "f", 2)
        self.assertEqual(run_turned(turned, "f", (9,), 50)[2], 2)


class ShowsMostTest(unittest.TestCase):
    def tells(self, expected, row, levels, f="f", turned=ROW):
        before = copy.deepcopy((row, levels))
        with self.subTest(row=row, levels=levels):
            self.assertIs(shows_most(turned, f, row, levels), expected)
            self.assertEqual((row, levels), before)
            self.assertIs(shows_most_reference(turned, f, row, levels), expected)

    def test_what_is_so(self):
        self.tells(True, [F_TO_G, G_TO_H, H_TO_I], ROW_LEVELS)
        self.tells(True, [], {"i": 0}, "i")
        self.tells(True, [H_TO_I], {"h": 1, "i": 0}, "h")
        # Levels of others than the first need not be the least ones.
        slack = (errand("f", ("g", 1), ("h", 1)), errand("g", ("i", 1)), errand("h"), errand("i"))
        row = [place_of("f", 0, 1), place_of("g", 0, 1)]
        self.tells(True, row, {"f": 2, "g": 1, "h": 0, "i": 0}, turned=slack)
        self.tells(True, row, {"f": 2, "g": 1, "h": 1, "i": 0}, turned=slack)
        self.tells(False, row, {"f": 2, "g": 1, "h": 2, "i": 0}, turned=slack)

    def test_a_row_that_goes_on_without_weight(self):
        turned = (errand("f", ("f", 0), ("g", 1)), errand("g", ("g", 0)))
        over, on, end = place_of("f", 0, 0), place_of("f", 1, 1), place_of("g", 0, 0)
        for row in ([on], [over, on], [over, over, over, on], [on, end], [over, on, end, end]):
            self.tells(True, row, {"f": 1, "g": 0}, turned=turned)
        for row in ([], [over], [on, on], [on, over], [end, on], [end]):
            self.tells(False, row, {"f": 1, "g": 0}, turned=turned)

    def test_an_errand_that_is_none(self):
        for f in ("z", "", "home"):
            self.tells(False, [], {}, f)
            self.tells(False, [], {f: 0}, f)
            self.tells(False, [], {"i": 0}, f)

    def test_places_left_out_twice_or_others(self):
        whole = [F_TO_G, G_TO_H, H_TO_I]
        for k in range(3):
            self.tells(False, whole[:k] + whole[k + 1 :], ROW_LEVELS)
            self.tells(False, whole[:k] + [whole[k]] + whole[k:], ROW_LEVELS)
        self.tells(False, whole[::-1], ROW_LEVELS)
        self.tells(False, [K_TO_F, *whole], ROW_LEVELS)
        self.tells(False, [], ROW_LEVELS)
        # A row that is one, but is not the heaviest.
        self.tells(False, [F_TO_H, H_TO_I], ROW_LEVELS)
        self.tells(False, [F_TO_H, H_TO_I], {**ROW_LEVELS, "f": 1})

    def test_places_that_are_those_of_no_ask(self):
        whole = [F_TO_G, G_TO_H, H_TO_I]
        for place in (
            ("f",),
            ("f", 0),
            ("f", 1),
            ("f", 1, 0),
            ("f", 1, 0, 0),
            ("f", 2, 2),
            ("f", 3),
            ("f", 9, 9),
            ("f", 1, 1, 0),
            ("f", 1, 1, 1),
            ("f", -2, 1),
            ("f", 1, -1),
            ("f", -2, -1),
            ("f", 1, 1, -1),
            ("z", 1, 1),
            ("z",),
            ("f", 10**30),
        ):
            self.tells(False, [place, *whole[1:]], ROW_LEVELS)
            self.tells(False, [place], {"f": 0})
        self.tells(False, [*whole, ("i",)], ROW_LEVELS)
        self.tells(False, [*whole, ("i", 0)], ROW_LEVELS)

    def test_a_level_more_or_fewer(self):
        whole = [F_TO_G, G_TO_H, H_TO_I]
        for f in ROW_LEVELS:
            for change in (-1, 1, 1000):
                self.tells(False, whole, {**ROW_LEVELS, f: ROW_LEVELS[f] + change})
            self.tells(False, whole, {g: level for g, level in ROW_LEVELS.items() if g != f})
        self.tells(False, whole, {f: level + 1 for f, level in ROW_LEVELS.items()})
        self.tells(False, whole, {**ROW_LEVELS, "k": 3})
        self.tells(False, whole, {**ROW_LEVELS, "k": 0})
        self.tells(False, whole, {**ROW_LEVELS, "z": 0})
        self.tells(False, whole, {})
        self.tells(False, [], {})
        self.tells(False, [], {}, "i")
        self.tells(False, [], {"i": -1}, "i")
        self.tells(False, [], {"i": 1}, "i")

    def test_a_level_below_nought(self):
        turned = (errand("f", ("g", 1)), errand("g"))
        row = [place_of("f", 0, 1)]
        self.tells(True, row, {"f": 1, "g": 0}, turned=turned)
        self.tells(False, row, {"f": 1, "g": -1}, turned=turned)
        self.tells(False, [], {"f": 0, "g": -1}, turned=turned)

    def test_truths_are_no_numbers_of_places(self):
        whole = [F_TO_G, G_TO_H, H_TO_I]
        self.assertIs(shows_most(ROW, "f", [("f", True, 1), *whole[1:]], ROW_LEVELS), False)
        self.assertIs(shows_most(ROW, "f", [("f", 1, True), *whole[1:]], ROW_LEVELS), False)

    def test_truths_are_no_levels(self):
        self.assertIs(shows_most(ROW, "i", [], {"i": False}), False)
        self.assertIs(shows_most(ROW, "h", [H_TO_I], {"h": True, "i": 0}), False)

    def test_a_paper_of_a_book_with_a_ring(self):
        for levels in ({"g": 1, "h": 0, "i": 0}, {"g": 1, "h": 1, "i": 0}, {"g": 1, "h": 2, "i": 0}, {"g": 2, "h": 1, "i": 0}):
            self.tells(False, [TO_H], levels, "g", RING)
            self.tells(False, [TO_H, BACK, TO_H], levels, "g", RING)

    def test_papers_changed_somewhere(self):
        seen = {True: 0, False: 0}
        for seed in range(600):
            maker = TurnedMaker(seed, 8)
            turned = maker.book()
            f = maker.asking()[0]
            head, row, levels = most_waiting(turned, f)
            if head == "ring":
                continue
            places = [place for place, asked, weight in asks_of(turned)] + [(f,), ("z", 1), ("f", -1)]
            for _ in range(12):
                row_too, levels_too = changed_row(row, places, maker.chance), dict(levels)
                if maker.chance.random() < 0.5:
                    levels_too[maker.chance.choice("fghi")] = maker.chance.randint(-1, 3)
                expected = shows_most_reference(turned, f, row_too, levels_too)
                self.assertIs(shows_most(turned, f, row_too, levels_too), expected)
                seen[expected] += 1
        self.assertGreater(min(seen.values()), 200)


class ShowsRingTest(unittest.TestCase):
    def tells(self, expected, lead, ring, f="f", turned=RING):
        before = copy.deepcopy((lead, ring))
        with self.subTest(lead=lead, ring=ring):
            self.assertIs(shows_ring(turned, f, lead, ring), expected)
            self.assertEqual((lead, ring), before)
            self.assertIs(shows_ring_reference(turned, f, lead, ring), expected)

    def test_what_is_so(self):
        self.tells(True, [TO_G], [TO_H, BACK])
        self.tells(True, [TO_G, TO_H], [BACK, TO_H])
        self.tells(True, [TO_G, TO_H, BACK], [TO_H, BACK, TO_H, BACK])
        self.tells(True, [], [TO_H, BACK], "g")
        self.tells(True, [TO_H], [BACK, TO_H], "g")
        self.tells(True, [], [BACK, TO_H], "h")
        self.tells(True, [], [("f", 1, 1)], turned=(errand("f", ("f", 1)),))

    def test_empty_ones(self):
        self.tells(False, [], [])
        self.tells(False, [TO_G], [])
        self.tells(False, [], [], "g")
        self.tells(False, [], [TO_H, BACK])

    def test_an_errand_that_is_none(self):
        for f in ("z", "", "home"):
            self.tells(False, [], [], f)
            self.tells(False, [], [TO_H, BACK], f)
            self.tells(False, [TO_G], [TO_H, BACK], f)

    def test_lead_and_ring_turned_about(self):
        self.tells(False, [TO_H, BACK], [TO_G])
        self.tells(False, [TO_H, BACK], [TO_G], "g")
        self.tells(False, [TO_G], [BACK, TO_H])
        self.tells(False, [TO_H, BACK], [], "g")

    def test_places_left_out_twice_or_others(self):
        self.tells(False, [TO_G], [TO_H])
        self.tells(False, [TO_G], [BACK])
        self.tells(False, [TO_G], [TO_H, TO_H, BACK])
        self.tells(False, [TO_G], [TO_H, BACK, BACK])
        self.tells(False, [TO_G, TO_G], [TO_H, BACK])
        self.tells(False, [TO_G], [TO_I, BACK])
        self.tells(False, [TO_G], [TO_H, BACK, TO_I])
        self.tells(False, [TO_G, TO_I], [TO_H, BACK])

    def test_the_ring_ends_where_it_begins(self):
        turned = (errand("f", ("g", 1)), errand("g", ("h", 1)), errand("h", ("g", 1), ("f", 0)))
        to_g, to_h, to_g_again, to_f = place_of("f", 0, 1), place_of("g", 0, 1), place_of("h", 0, 1), place_of("h", 1, 0)
        self.tells(True, [], [to_g, to_h, to_f], turned=turned)
        self.tells(False, [], [to_g, to_h, to_g_again], turned=turned)
        self.tells(False, [to_g], [to_h, to_f], turned=turned)
        self.tells(True, [to_g], [to_h, to_g_again], turned=turned)

    def test_a_ring_without_weight(self):
        turned = (errand("f", ("g", 1), ("f", 0)), errand("g", ("g", 0), ("g", 1)))
        lead = [place_of("f", 0, 1)]
        self.tells(False, [], [place_of("f", 1, 0)], turned=turned)
        self.tells(False, lead, [place_of("g", 0, 0)], turned=turned)
        self.tells(False, lead, [place_of("g", 0, 0)] * 3, turned=turned)
        self.tells(True, lead, [place_of("g", 1, 1)], turned=turned)
        self.tells(True, lead, [place_of("g", 0, 0), place_of("g", 1, 1)], turned=turned)

    def test_places_that_are_those_of_no_ask(self):
        for place in (("g",), ("g", 0), ("g", 1), ("g", 1, 0), ("g", 1, 1, 0), ("g", -2, 1), ("g", 1, -1), ("g", 9), ("z", 1, 1), ("g", 2, 2)):
            self.tells(False, [TO_G], [place, BACK])
            self.tells(False, [TO_G, place], [BACK, TO_H])

    def test_rings_changed_somewhere(self):
        seen = {True: 0, False: 0}
        for seed in range(600):
            maker = TurnedMaker(seed, 8)
            turned = maker.book()
            f = maker.asking()[0]
            head, lead, ring = most_waiting(turned, f)
            if head == "most":
                continue
            places = [place for place, asked, weight in asks_of(turned)] + [(f,), ("z", 1), ("f", -1)]
            for _ in range(12):
                lead_too, ring_too = [changed_row(one, places, maker.chance) for one in (lead, ring)]
                expected = shows_ring_reference(turned, f, lead_too, ring_too)
                self.assertIs(shows_ring(turned, f, lead_too, ring_too), expected)
                seen[expected] += 1
        self.assertGreater(min(seen.values()), 200)


def changed_row(row, places, chance):
    """The row, often with one place put in, left out or made another one."""
    row = list(row)
    at = chance.randint(0, len(row))
    made = chance.random()
    if made < 0.2:
        row.insert(at, chance.choice(places))
    elif made < 0.4 and at < len(row):
        del row[at]
    elif made < 0.6 and at < len(row):
        row[at] = chance.choice(places)
    return row


if __name__ == "__main__":
    unittest.main()
