"""What every run refuses."""

from whatnext.errors import NextError, NoAsking, NoMost


class Refusals:
    """Tests of self.runs, which asks f, of two names, or g, of none; no others are there."""

    def test_no_asking(self):
        for f, numbers in (
            ("h", ()),
            ("h", (1, 2)),
            ("n", ()),
            ("", ()),
            ("F", (1, 2)),
            ("f ", (1, 2)),
            ("home", ()),
            ("f", ()),
            ("f", (1,)),
            ("f", (1, 2, 3)),
            ("g", (1,)),
            ("f", (True, 2)),
            ("f", [1, 2]),
            ("g", None),
            (None, ()),
            (["g"], ()),
        ):
            with self.subTest(f=f, numbers=numbers), self.assertRaises(NoAsking) as caught:
                self.runs(f, numbers, 5)
            self.assertIsInstance(caught.exception, NextError)

    def test_no_most(self):
        for most in (-1, -3000, 3001, 10**30, True, False, None):
            with self.subTest(most=most), self.assertRaises(NoMost) as caught:
                self.runs("f", (1, 2), most)
            self.assertIsInstance(caught.exception, NextError)

    def test_no_asking_goes_ahead_of_no_most(self):
        for f, numbers in (("h", ()), ("f", (1,)), ("g", (1,))):
            for most in (-1, 3001):
                with self.subTest(f=f, most=most), self.assertRaises(NoAsking):
                    self.runs(f, numbers, most)

    def test_the_bounds_themselves(self):
        self.assertEqual(self.runs("f", (1, 2), 0)[1], ("long",))
        self.assertEqual(self.runs("f", (1, 2), 3000)[1], ("done", 3))
