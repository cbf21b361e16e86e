import copy
import unittest

from tests.makers import BookMaker, TurnedMaker
from tests.terms import EVERY_SORT, ask, book_of, chain, less, let, name, num, plus, tell, when
from tests.texts_reference import read_reference, write, write_all, write_part
from tests.turned_terms import BENT, EVERY_PART, HOME, fork, give, hand, held, post, tells, told, turned_of
from whatnext.back import back
from whatnext.books import why_no_book
from whatnext.errors import NextError, NoBook, NoText, TooGreat
from whatnext.laid import laid
from whatnext.texts import read_book, show_book, show_turned
from whatnext.turning import turn_book

A, B = name("a"), name("b")

# Texts of one line behind "f a b = ", with the bodies they write.
BODIES = (
    ("0", num(0)),
    ("7", num(7)),
    ("10", num(10)),
    ("999", num(999)),
    ("a", A),
    ("(a + b)", plus(A, B)),
    ("(a - b)", less(A, B)),
    ("((a + 1) - (b - 0))", less(plus(A, num(1)), less(B, num(0)))),
    ("tell a", tell(A)),
    ("tell tell (a + b)", tell(tell(plus(A, B)))),
    ("(tell a + tell b)", plus(tell(A), tell(B))),
    ("let x be a in b", let("x", A, B)),
    ("let x be let y be 1 in y in (x + a)", let("x", let("y", num(1), name("y")), plus(name("x"), A))),
    ("let x be 1 in let y be x in y", let("x", num(1), let("y", name("x"), name("y")))),
    ("if a then b else 0", when(A, B, num(0))),
    ("if if a then b else 0 then if b then 1 else 2 else if a then 3 else 4", when(when(A, B, num(0)), when(B, num(1), num(2)), when(A, num(3), num(4)))),
    ("f(a, b)", ask("f", A, B)),
    ("f(tell a, f(1, (a + b)))", ask("f", tell(A), ask("f", num(1), plus(A, B)))),
    ("(let x be a in x - if a then b else f(1, 2))", less(let("x", A, name("x")), when(A, B, ask("f", num(1), num(2))))),
    ("tell let tella be a in tella", tell(let("tella", A, name("tella")))),
    ("let beinif be a in beinif", let("beinif", A, name("beinif"))),
)


class ShowBookTest(unittest.TestCase):
    def test_each_sort_of_term(self):
        for text, body in BODIES:
            self.assertEqual(show_book(book_of(body, "a", "b")), "f a b = " + text)
            self.assertEqual(write(body), text)

    def test_asks_of_none_to_four(self):
        self.assertEqual(show_book(book_of(ask("f"))), "f = f()")
        self.assertEqual(show_book(book_of(ask("f", num(1)), "a")), "f a = f(1)")
        self.assertEqual(show_book(book_of(ask("f", *[num(n) for n in range(4)]), *"abcd")), "f a b c d = f(0, 1, 2, 3)")

    def test_a_line_for_each_errand(self):
        self.assertEqual(
            show_book(EVERY_SORT),
            "f a b = let x be g((a + 1), tell b) in if x then (x - a) else h()\ng c d = (c - d)\nh = 7",
        )

    def test_words_of_eight_signs(self):
        self.assertEqual(show_book((("abcdefgh", ("zzzzzzzz",), name("zzzzzzzz")),)), "abcdefgh zzzzzzzz = zzzzzzzz")

    def test_greater_ones_than_books(self):
        self.assertEqual(show_book(book_of(chain(300))), "f = " + "tell " * 300 + "1")
        self.assertEqual(show_book(book_of(ask("f", *[num(n) for n in range(6)]), *"abcdxy")), "f a b c d x y = f(0, 1, 2, 3, 4, 5)")

    def test_books_made_by_rule(self):
        for seed in range(400):
            book = BookMaker(seed).book()
            self.assertEqual(show_book(book), write_all(book, write))

    def test_nothing_is_changed(self):
        before = copy.deepcopy(EVERY_SORT)
        show_book(EVERY_SORT)
        self.assertEqual(EVERY_SORT, before)


class ShowTurnedTest(unittest.TestCase):
    def test_each_sort_of_part(self):
        for text, body in (
            ("give 7 to home", give("home", num(7))),
            ("give (a + (b - 1)) to home", give("home", plus(A, less(B, num(1))))),
            ("ask f(a, 0) to home", hand("f", A, num(0))),
            ("ask h() to home", hand("h")),
            ("ask g(a) to home", hand("g", A)),
            ("ask i(a, b, 1, (a - b)) to home", hand("i", A, B, num(1), less(A, B))),
            ("tell a as x; give x to home", told("x", A, give("home", name("x")))),
            ("let x be (a + b); give x to home", held("x", plus(A, B), give("home", name("x")))),
            ("if a {give 1 to home} else {give 2 to home}", fork(A, give("home", num(1)), give("home", num(2)))),
            ("post j x {give x to home} ask h() to j", post("j", "x", give("home", name("x")), hand("h", to="j"))),
            ("post j x {give x to home} give 3 to j", post("j", "x", give("home", name("x")), give("j", num(3)))),
            (
                "post j x {post k y {give (x + y) to home} ask h() to k} if a {tell 1 as u; give u to j} else {let v be 2; ask g(v) to home}",
                post(
                    "j",
                    "x",
                    post("k", "y", give("home", plus(name("x"), name("y"))), hand("h", to="k")),
                    fork(A, told("u", num(1), give("j", name("u"))), held("v", num(2), hand("g", name("v")))),
                ),
            ),
        ):
            self.assertEqual(show_turned(turned_of(body, "a", "b")), "f a b = " + text)
            self.assertEqual(write_part(body), text)

    def test_a_line_for_each_errand(self):
        self.assertEqual(
            show_turned(EVERY_PART),
            "f a b = post j x {tell (x + a) as y; give y to home} if a {let z be (b - 1); ask g(z, 5) to j} else {give 3 to j}\n"
            "g c d = ask h() to home\n"
            "h = give 7 to home",
        )
        self.assertEqual(show_turned(BENT), "f = post j x {give x to home} give 4 to home")

    def test_greater_ones_than_turned_books(self):
        text = show_turned(turned_of(tells(1000)))
        self.assertEqual(text.count("tell 1 as "), 1000)
        self.assertTrue(text.endswith("; give 1 to home"))
        self.assertEqual(show_turned((("f", tuple("abcde"), HOME),)), "f a b c d e = give 1 to home")

    def test_turned_books_made_by_rule(self):
        for seed in range(400):
            turned = TurnedMaker(seed).book()
            self.assertEqual(show_turned(turned), write_all(turned, write_part))

    def test_nothing_is_changed(self):
        before = copy.deepcopy(EVERY_PART)
        show_turned(EVERY_PART)
        self.assertEqual(EVERY_PART, before)


class ReadBookTest(unittest.TestCase):
    def no_text(self, *texts):
        for text in texts:
            with self.subTest(text=text[:100]):
                self.assertIsNone(read_reference(text))
                with self.assertRaises(NoText) as caught:
                    read_book(text)
                self.assertIsInstance(caught.exception, NextError)

    def no_body(self, *bodies):
        self.no_text(*["f a b = " + body for body in bodies], *["f a b = tell " + body for body in bodies])

    def no_book(self, fault, *texts):
        for text in texts:
            with self.subTest(text=text[:100]):
                self.assertIsNotNone(read_reference(text))
                with self.assertRaises(NoBook) as caught:
                    read_book(text)
                self.assertEqual(caught.exception.fault, fault)
                self.assertIsInstance(caught.exception, NextError)

    def test_each_sort_of_term(self):
        for text, body in BODIES:
            self.assertEqual(read_book("f a b = " + text), book_of(body, "a", "b"))

    def test_names_and_errands(self):
        for many in range(5):
            names = tuple("abcd"[:many])
            text = " ".join(["f", *names, "=", "f(" + ", ".join(["1"] * many) + ")"])
            self.assertEqual(read_book(text), book_of(ask("f", *[num(1)] * many), *names))
        six = "\n".join(f"{f} = g()" for f in "fghikl")
        self.assertEqual(read_book(six), tuple((f, (), ask("g")) for f in "fghikl"))
        self.assertEqual(read_book("abcdefgh zzzzzzzz = zzzzzzzz"), (("abcdefgh", ("zzzzzzzz",), name("zzzzzzzz")),))

    def test_what_is_told_is_made_of_tuples(self):
        book = read_book(show_book(EVERY_SORT))
        self.assertEqual(book, EVERY_SORT)
        self.assertEqual(repr(book), repr(EVERY_SORT))

    def test_written_and_read_back(self):
        many = 0
        for seed in range(600):
            book = BookMaker(seed).book()
            fault = why_no_book(book)
            if fault is None:
                self.assertEqual(read_book(show_book(book)), book)
                many += 1
            else:
                self.no_book(fault, show_book(book))
        self.assertGreater(many, 300)

    def test_empty_texts_and_lines(self):
        self.no_text("", " ", "\n", "\n\n", "f = 1\n", "\nf = 1", "f = 1\n\ng = 2", "f = 1 \ng = 2", "f = 1\n g = 2", "\n" * 3600)

    def test_what_a_line_begins_with(self):
        self.no_text("f", "f =", "f = ", "=", "= 1", " = 1", "f 1", "f a b", "f a b 1", "f == 1", "f = = 1", "f = 1 = 1")
        self.no_text("f= 1", "f =1", "f=1", "f  = 1", "f =  1", " f = 1", "f = 1 ", "f a  b = 1", "f  a b = 1", "f a b  = 1")
        self.no_text("f, a = 1", "f a, b = 1", "f(a) = 1", "F = 1", "f A = 1", "f a1 = 1", "f 1 = 1", "1 = 1", "f a. = 1", "f: = 1")
        self.no_text("abcdefghi = 1", "f abcdefghi = 1", "f a b c d e = 1")

    def test_words_of_the_language(self):
        for word in ("let", "be", "in", "tell", "if", "then", "else", "home"):
            self.no_text(f"{word} = 1", f"f {word} = 1", f"f = {word}", f"f = {word}()", f"f = let {word} be 1 in 2", f"f = tell {word}")
            self.no_text(f"f = (1 + {word})", f"f = f({word})")
        self.assertEqual(read_book("lets = lets()"), (("lets", (), ask("lets")),))

    def test_numbers(self):
        self.no_body("00", "01", "007", "000", "1000", "0999", "9999", "12345", "1" * 900, "-1", "+1", "1.0", "1 000", "1a", "1_0")

    def test_blanks_too_many_or_too_few(self):
        for text in (
            "(a  + b)",
            "(a +  b)",
            "( a + b)",
            "(a + b )",
            "(a+ b)",
            "(a +b)",
            "(a+b)",
            "tell  a",
            "tell(a + b)",
            "let  x be a in b",
            "let x  be a in b",
            "let x be  a in b",
            "let x be a  in b",
            "let x be a in  b",
            "letx be a in b",
            "let xbe a in b",
            "let x bea in b",
            "let x be ain b",
            "let x be a inb",
            "let x be 1in b",
            "if  a then b else a",
            "if a  then b else a",
            "if a then  b else a",
            "if a then b  else a",
            "if a then b else  a",
            "if(a + b) then b else a",
            "if athen b else a",
            "if a thenb else a",
            "if a then belse a",
            "if a then b elsea",
            "if 1then b else a",
            "f (a, b)",
            "f( a, b)",
            "f(a , b)",
            "f(a,b)",
            "f(a,  b)",
            "f(a, b )",
            "f( )",
        ):
            self.no_body(text)

    def test_brackets_too_many_or_too_few(self):
        self.no_body("(a)", "((a + b))", "(a + b", "a + b)", "a + b", "(a + b))", "((a + b)", "()", "(", ")", "(a +)", "(+ b)", "(a + )")
        self.no_body("(a + b + a)", "(a b)", "(a, b)", "(a * b)", "(a - b + a)", "(a + - b)", "[a + b]", "{a}")
        self.no_body("f(", "f)", "f(a, b", "f(a, b))", "f((a, b))", "f(a, )", "f(, b)", "f(a,, b)", "f(a b)", "f()()", "f(a)(b)", "1(a)", "(f)(a)")

    def test_words_too_many_or_too_few(self):
        self.no_body("a b", "tell", "tell ", "tells a", "tell a b", "let x be a", "let x a in b", "let be a in b", "let 1 be a in b")
        self.no_body("let x y be a in b", "let x be a in", "let X be a in b", "let x be a in b in a", "let abcdefghi be a in b", "abcdefghi", "let (x) be a in b")
        self.no_body("if a then b", "if a else b", "if then b else a", "if a then else b", "if a b else a", "then a", "if a then b else a else b", "if a then b else")
        self.no_body("A", "a.", "a;", "'a'", "$", "a = b", "abcdefghi(a)", "Tell a")

    def test_asks_of_more_than_four(self):
        self.no_text("f = f(1, 2, 3, 4, 5)", "f = f(1, 2, 3, 4, 5, 6)", "f = tell f(1, 2, 3, 4, f(5))")

    def test_more_than_six_errands(self):
        self.no_text("\n".join(f"{f} = 1" for f in "fghiklm"))
        self.no_text("\n".join(["f = 1"] * 7))

    def test_names_that_make_no_book(self):
        self.no_book(
            "names",
            "f = 1\nf = 2",
            "f = a",
            "f a a = 1",
            "f a = let a be 1 in 2",
            "f = (let x be 1 in x + let x be 2 in x)",
            "f = (let x be 1 in x + x)",
            "f = let x be x in 1",
            "f = g()",
            "f = f(1)",
            "f a = f()",
            "f a b = f(a)",
            "f a = b",
        )

    def test_great_ones_that_make_no_book(self):
        self.no_book("great", "f = " + "tell " * 13 + "1", "f = " + "tell " * 99 + "1")
        self.assertEqual(read_book("f = " + "tell " * 12 + "1"), book_of(chain(12)))
        many = plus_chain(5)
        self.no_book("great", "f = " + many)
        # What is wrong with names is told first.
        self.no_book("names", "f = " + "tell " * 13 + "a", "f = " + "tell " * 100 + "g()")

    def test_within_a_hundred_others(self):
        """One more is no text, whichever terms are around it."""
        for ahead, behind in (
            ("tell ", ""),
            ("(", " + 1)"),
            ("(1 - ", ")"),
            ("let x be ", " in 1"),
            ("let x be 1 in ", ""),
            ("if ", " then 1 else 1"),
            ("if 1 then ", " else 1"),
            ("if 1 then 1 else ", ""),
            ("f(", ")"),
            ("f(1, ", ")"),
            ("f(1, 1, 1, ", ")"),
        ):
            for end in ("1", "f()", "a"):
                text = "f = " + ahead * 100 + end + behind * 100
                if len(text) <= 3600:
                    with self.subTest(text=text[:30]), self.assertRaises(NoBook):
                        read_book(text)
                self.no_text("f = " + ahead * 101 + end + behind * 101)

    def test_far_beyond(self):
        self.no_text("f = " + "(" * 3590, "f = " + "tell " * 719, "f = " + "f(" * 1790, "f = " + "1" * 3590, "f " * 1800, "a" * 3600)
        self.no_text("f = " + "(" * 1000 + "1" + " + 1)" * 500, "f = " + ")" * 3590)

    def test_texts_changed_somewhere(self):
        seen = {"book": 0, "text": 0, "none": 0}
        for seed in range(300):
            maker = BookMaker(seed, 12)
            text = show_book(maker.book())
            for _ in range(20):
                changed = changed_text(text, maker.chance)
                expected = read_reference(changed)
                if expected is None:
                    self.no_text(changed)
                    seen["none"] += 1
                elif why_no_book(expected) is None:
                    self.assertEqual(read_book(changed), expected)
                    seen["book"] += 1
                else:
                    self.no_book(why_no_book(expected), changed)
                    seen["text"] += 1
        self.assertGreater(min(seen.values()), 100)

    def test_texts_of_what_is_turned_back_and_laid(self):
        for seed in range(200):
            try:
                book = back(laid(turn_book(BookMaker(seed, 12).book())))
            except TooGreat:
                continue
            text = show_book(book)
            self.assertEqual(read_reference(text), book)
            if why_no_book(book) is None:
                self.assertEqual(read_book(text), book)


def plus_chain(around):
    """The text of a sum of 2 ** around numbers."""
    return "1" if around == 0 else "(" + plus_chain(around - 1) + " + " + plus_chain(around - 1) + ")"


def changed_text(text, chance):
    """The text with one or two bits put in, left out or put elsewhere."""
    bits = ["a", "f", "0", "1", "9", " ", "(", ")", ", ", " + ", " - ", "tell ", "let ", " in ", "if ", "x", "\n", "=", "b be "]
    for _ in range(chance.choice([1, 1, 2])):
        at = chance.randint(0, len(text))
        if chance.random() < 0.5:
            text = text[:at] + chance.choice(bits) + text[at:]
        elif chance.random() < 0.6:
            text = text[:at] + text[at + chance.choice([1, 1, 2, 3]) :]
        else:
            text = text[:at] + chance.choice(bits) + text[at + 1 :]
    return text


if __name__ == "__main__":
    unittest.main()
