import unittest

from tests.terms import less, name, num, plus
from tests.turned_terms import HOME, fork, give, hand, held, post, told
from whatnext.turnedbooks import turned_parts

S = plus(num(1), name("a"))
OTHER = less(name("b"), num(2))
T = give("home", num(3))
U = hand("f", num(4), to="j")


class TurnedPartsTest(unittest.TestCase):
    def parts(self, part, parts):
        self.assertEqual(turned_parts(part), parts)
        self.assertIsInstance(turned_parts(part), tuple)

    def test_each_sort_of_turned_part(self):
        for part, parts in (
            (give("j", S), (S,)),
            (give("home", S), (S,)),
            (hand("f"), ()),
            (hand("f", S, to="j"), (S,)),
            (hand("f", OTHER, S, S, OTHER, to="j"), (OTHER, S, S, OTHER)),
            (told("x", S, T), (S, T)),
            (held("x", S, U), (S, U)),
            (fork(S, U, T), (S, U, T)),
            # T, done when a number is given, stands ahead of U.
            (post("j", "x", T, U), (T, U)),
            (post("j", "x", U, T), (U, T)),
        ):
            with self.subTest(part=part):
                self.parts(part, parts)

    def test_simple_terms(self):
        for term, parts in (
            (num(5), ()),
            (name("x"), ()),
            (S, (num(1), name("a"))),
            (OTHER, (name("b"), num(2))),
            (plus(S, OTHER), (S, OTHER)),
        ):
            with self.subTest(term=term):
                self.parts(term, parts)

    def test_only_those_right_in_it(self):
        self.parts(fork(num(0), fork(num(1), HOME, HOME), HOME), (num(0), fork(num(1), HOME, HOME), HOME))


if __name__ == "__main__":
    unittest.main()
