import copy
import random
import unittest

from tests.makers import BookMaker, TurnedMaker
from tests.slim_reference import idle_reference, slim_reference, with_idle_posts
from tests.terms import EVERY_SORT, less, name, num, plus
from tests.turned_terms import BENT, EVERY_PART, HOME, fork, give, hand, held, letters, post, told, turned_of
from tests.turning_reference import anew_reference
from whatnext.anew import are_alike
from whatnext.back import bent_at
from whatnext.laid import laid
from whatnext.slim import idle_places, slim
from whatnext.turnedbooks import is_turned
from whatnext.turnedruns import run_turned
from whatnext.turning import turn_book

ONE = num(1)
A, X, Y = name("a"), name("x"), name("y")
H = ("h", (), HOME)
# A T that does more than give on.
BUSY = told("t", X, give("home", name("t")))


def busy(x, word):
    return told(word, name(x), give("home", name(word)))


class IdlePlacesTest(unittest.TestCase):
    def tells(self, body, *places):
        """The places, told by their numbers, of an errand f that has one name, a."""
        turned = (*turned_of(body, "a"), H)
        self.assertIs(is_turned(turned), True)
        self.assertEqual(idle_places(turned), [("f", *place) for place in places])

    def test_t_that_gives_on(self):
        self.tells(post("j", "x", give("home", X), hand("h", to="j")), ())
        self.tells(post("j", "x", give("home", X), give("j", ONE)), ())
        self.tells(post("j", "x", give("home", X), fork(A, give("j", ONE), hand("h", to="j"))), ())

    def test_t_that_gives_on_to_a_post_around(self):
        self.tells(post("k", "y", busy("y", "z"), post("j", "x", give("k", X), hand("h", to="j"))), (1,))

    def test_t_that_does_not_just_give_on(self):
        for then in (
            give("home", plus(X, num(0))),
            give("home", plus(num(0), X)),
            give("home", less(X, num(0))),
            give("home", A),
            give("home", num(0)),
            told("y", X, give("home", Y)),
            held("y", X, give("home", Y)),
            fork(X, give("home", X), give("home", X)),
            hand("h"),
            hand("f", X),
        ):
            self.tells(post("j", "x", then, hand("h", to="j")))

    def test_another_name_given_on_within_a_post(self):
        self.tells(post("i", "y", post("j", "x", give("home", Y), hand("h", to="j")), hand("h", to="i")))

    def test_where_j_stands_in_u(self):
        self.tells(post("j", "x", BUSY, give("j", ONE)))
        self.tells(post("j", "x", BUSY, hand("h", to="j")))
        self.tells(post("j", "x", BUSY, hand("h")), ())
        self.tells(post("j", "x", BUSY, give("home", ONE)), ())
        self.tells(post("j", "x", BUSY, fork(A, held("y", ONE, told("z", Y, give("j", ONE))), HOME)))
        self.tells(post("j", "x", BUSY, fork(A, held("y", ONE, told("z", Y, HOME)), HOME)), ())

    def test_j_in_t_or_in_u_of_a_post_within_u(self):
        self.tells(post("j", "x", BUSY, post("k", "y", give("j", plus(Y, ONE)), hand("h", to="k"))))
        self.tells(post("j", "x", BUSY, post("k", "y", busy("y", "z"), fork(A, hand("h", to="k"), hand("h", to="j")))))

    def test_both_at_once_is_told_once(self):
        self.tells(post("j", "x", give("home", X), hand("h")), ())

    def test_j_that_is_a_word_too(self):
        # The name j, a let's or tell's j, and an errand j are none of the hand-on.
        named = ("j", ("j",), post("j", "x", BUSY, give("home", plus(name("j"), ONE))))
        self.assertEqual(idle_places((named,)), [("j",)])
        asked = ("j", ("j",), post("j", "x", BUSY, hand("j", name("j"))))
        self.assertEqual(idle_places((asked,)), [("j",)])
        for make in (held, told):
            self.tells(post("j", "x", BUSY, make("j", ONE, give("home", name("j")))), ())
            self.tells(post("j", "x", BUSY, make("j", ONE, give("j", name("j")))))
        self.tells(post("x", "x", give("home", X), hand("h", to="x")), ())
        self.tells(post("x", "x", BUSY, hand("h", to="x")))
        self.tells(post("k", "y", busy("y", "z"), post("j", "k", give("k", name("k")), hand("h", to="j"))), (1,))

    def test_posts_within_posts(self):
        in_t = post("k", "y", give("home", Y), hand("h", to="k"))
        in_u = post("i", "z", busy("z", "v"), hand("h", to="j"))
        self.tells(post("j", "x", in_t, hand("h", to="j")), (0,))
        self.tells(post("j", "x", in_t, in_u), (0,), (1,))
        self.tells(post("j", "x", in_t, HOME), (), (0,))
        self.tells(post("j", "x", post("k", "y", give("home", X), HOME), post("i", "z", give("j", ONE), HOME)), (0,), (1,))

    def test_places_count_simple_terms(self):
        idle = post("j", "x", give("home", X), HOME)
        self.tells(held("y", plus(A, ONE), fork(Y, HOME, told("z", A, idle))), (1, 2, 1))

    def test_errand_by_errand(self):
        idle = post("j", "x", post("k", "y", give("home", X), HOME), HOME)
        turned = (("z", (), fork(ONE, idle, HOME)), ("c", (), HOME), ("a", (), idle))
        self.assertEqual(idle_places(turned), [("z", 1), ("z", 1, 0), ("a",), ("a", 0)])

    def test_a_told_list_is_the_askers_own(self):
        turned = turned_of(post("j", "x", give("home", X), HOME))
        idle_places(turned).clear()
        self.assertEqual(idle_places(turned), [("f",)])

    def test_by_reference(self):
        many = 0
        for seed in range(400):
            chance = random.Random(seed)
            turned = with_idle_posts(TurnedMaker(seed, 20).book(), chance, seed % 4)
            expected = [place for f, names, body in turned for place, way in idle_reference(body, (f,))]
            self.assertEqual(idle_places(turned), expected)
            many += len(expected)
        self.assertGreater(many, 800)


class SlimTest(unittest.TestCase):
    def slim(self, body, expected, is_small=True):
        turned, slimmed = [(*turned_of(one, "a"), H) for one in (body, expected)]
        self.assertIs(is_turned(turned), is_small)
        self.assertEqual(anew_reference(slim(turned)), anew_reference(slimmed))
        self.assertEqual(anew_reference(slim((H, *turned))), anew_reference((H, *slimmed)))

    def test_t_that_gives_on(self):
        self.slim(post("j", "x", give("home", X), hand("h", to="j")), hand("h"))
        self.slim(post("j", "x", give("home", X), give("j", A)), give("home", A))
        self.slim(
            post("j", "x", give("home", X), told("y", A, fork(Y, give("j", Y), hand("h", to="j")))),
            told("y", A, fork(Y, give("home", Y), hand("h"))),
        )

    def test_t_that_gives_on_to_a_post_around(self):
        t = busy("y", "z")
        self.slim(
            post("k", "y", t, post("j", "x", give("k", X), fork(A, hand("h", to="j"), hand("h", to="home")))),
            post("k", "y", t, fork(A, hand("h", to="k"), hand("h"))),
        )

    def test_k_for_j_within_posts(self):
        t = busy("y", "z")
        self.slim(
            post("j", "x", give("home", X), post("k", "y", told("z", Y, hand("h", to="j")), fork(A, hand("h", to="k"), give("j", A)))),
            post("k", "y", told("z", Y, hand("h")), fork(A, hand("h", to="k"), give("home", A))),
        )
        self.slim(post("j", "x", give("home", X), post("k", "y", t, hand("h", to="j"))), hand("h"))

    def test_a_j_that_is_used_nowhere(self):
        self.slim(post("j", "x", BUSY, hand("h")), hand("h"))
        self.slim(post("j", "x", BUSY, told("y", A, give("home", Y))), told("y", A, give("home", Y)))
        self.slim(post("j", "x", give("home", X), HOME), HOME)

    def test_words_that_are_those_of_posts_stay(self):
        self.slim(
            post("j", "x", give("home", X), held("j", A, give("j", name("j")))), held("j", A, give("home", name("j")))
        )

    def test_idle_only_when_another_is_put_out(self):
        # The only use of j is in the T of k, which nothing is given to.
        self.slim(post("j", "x", BUSY, post("k", "y", give("j", plus(Y, ONE)), hand("h"))), hand("h"))
        # T of j becomes a give alone.
        self.slim(
            post("j", "x", post("k", "y", busy("y", "z"), give("home", X)), fork(A, hand("h", to="j"), give("j", ONE))),
            fork(A, hand("h"), give("home", ONE)),
        )
        # T of j becomes a give alone, as the one within it gives on.
        self.slim(post("j", "x", post("k", "y", give("home", Y), give("k", X)), hand("h", to="j")), hand("h"))
        # Three, each by the one within it.
        body = post("i", "w", busy("w", "v"), post("j", "x", told("u", X, give("i", X)), post("k", "y", give("j", plus(Y, ONE)), HOME)))
        self.slim(body, HOME)

    def test_j_that_stays_as_it_is_given_k_once_more(self):
        # Only by the inner one's being put out does the outer one's j stand at the ask.
        self.slim(
            post("k", "y", busy("y", "z"), post("j", "x", give("k", X), hand("h", to="j"))),
            post("k", "y", busy("y", "z"), hand("h", to="k")),
        )

    def test_a_book_with_none(self):
        for turned in (EVERY_PART, turned_of(HOME), turned_of(post("j", "x", BUSY, hand("f", to="j")))):
            self.assertEqual(idle_places(turned), [])
            self.assertTrue(are_alike(slim(turned), turned))
        self.assertTrue(are_alike(slim(BENT), turned_of(give("home", num(4)))))

    def test_many_at_once(self):
        body, expected = HOME, HOME
        for k in range(150):
            body = post(letters(k), letters(k), give("home", name(letters(k))), fork(ONE, hand("h", to=letters(k)), body))
            expected = fork(ONE, hand("h"), expected)
        self.slim(body, expected, is_small=False)
        body = give(letters(299), ONE)
        for k in reversed(range(300)):
            body = post(letters(k), letters(k), give(letters(k - 1) if k else "home", name(letters(k))), body)
        self.assertEqual(slim(turned_of(body)), turned_of(HOME))

    def test_nothing_is_changed(self):
        before = copy.deepcopy(BENT)
        slim(BENT)
        self.assertEqual(BENT, before)

    def same_runs(self, maker, turned, got):
        """The runs of one errand are as they were; told is whether fewer wait in one."""
        f, numbers = maker.asking()
        fewer = False
        for most in (1, 3, 30):
            trail, end, deepest, made = run_turned(turned, f, numbers, most)
            other = run_turned(got, f, numbers, most)
            self.assertEqual(other[:2], (trail, end))
            self.assertLessEqual(other[2], deepest)
            self.assertLessEqual(other[3], made)
            fewer = fewer or other[2] < deepest
        return fewer

    def test_by_reference_and_by_runs(self):
        straight = fewer = 0
        for seed in range(600):
            maker = TurnedMaker(seed, 24, is_straight=seed % 3 == 0)
            chance = random.Random(seed)
            plain = maker.book()
            turned = with_idle_posts(plain, chance, seed % 5)
            got = slim(turned)
            self.assertEqual(anew_reference(got), anew_reference(slim_reference(turned, chance)))
            self.assertTrue(are_alike(got, slim(plain)))
            self.assertEqual(idle_places(got), [])
            self.assertIs(is_turned(got), True)
            self.assertEqual([one[:2] for one in got], [one[:2] for one in turned])
            if bent_at(turned) is None:
                self.assertIsNone(bent_at(got))
                straight += 1
            fewer += self.same_runs(maker, turned, got)
        self.assertGreater(straight, 40)
        self.assertGreater(fewer, 40)

    def test_books_turned_and_laid(self):
        for seed in range(200):
            maker = BookMaker(seed, 16)
            turned = turn_book(maker.book())
            for one in (turned, slim(laid(turned))):
                got = slim(one)
                self.assertEqual(anew_reference(got), anew_reference(slim_reference(one, random.Random(seed))))
                self.assertIsNone(bent_at(got))
                self.same_runs(maker, one, got)
        self.assertTrue(are_alike(slim(turn_book(EVERY_SORT)), turn_book(EVERY_SORT)))


if __name__ == "__main__":
    unittest.main()
