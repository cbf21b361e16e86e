import unittest

from tests.makers import BookMaker
from tests.terms import EVERY_SORT
from tests.texts_reference import write, write_all, write_part
from tests.turning_reference import anew_reference, book_anew_reference
from tests.waits_reference import greatest_weight
from whatnext.back import named_book
from whatnext.books import why_no_book
from whatnext.carried import carried, not_carried_at
from whatnext.desk import Desk
from whatnext.errors import NextError, NoAsking, NoBook, NoRow, NoStand, NoText, TooGreat
from whatnext.laid import laid
from whatnext.runs import run
from whatnext.slim import slim
from whatnext.texts import show_book
from whatnext.turning import turn_book

SUM = "sum n = if n then (n + sum((n - 1))) else 0"
# up tells and waits for down; down waits for nothing; ever waits for itself; one asks without a name.
TEXT = "\n".join(
    [
        "up n m = (tell (n + m) + down(n))",
        "down n = if tell n then down((n - 1)) else 7",
        "ever n = (1 + ever((n + 1)))",
        "one = up(2, 3)",
    ]
)


def desk_with(text):
    desk = Desk()
    desk.say("book\n" + text)
    return desk


class RowsTest(unittest.TestCase):
    def says(self, text, row, expected):
        desk = desk_with(text)
        for _ in range(2):
            self.assertEqual(desk.say(row), expected)

    def test_book(self):
        desk = Desk()
        self.assertEqual(desk.say("book\n" + TEXT), "ok")
        self.assertEqual(desk.say("book\nf = 1"), "ok")

    def test_run(self):
        self.says(SUM, "run sum 0", "done 0 0 0")
        self.says(SUM, "run sum 3", "done 6 3 3")
        self.says(SUM, "run sum 100", "done 50 100 100")
        self.says(TEXT, "run down 2", "done 7 0 0 2 1 0")
        self.says(TEXT, "run up 2 3", "done 12 1 1 5 2 1 0")
        self.says(TEXT, "run up 999 1", "done 7 1 1 0 " + " ".join(map(str, range(999, -1, -1))))
        self.says(TEXT, "run one", "done 12 1 1 5 2 1 0")

    def test_run_long(self):
        # The most wait at the last of 3000 asks; one more ask is due, which is left.
        self.says(TEXT, "run ever 0", "long 2999 3000")
        self.says("f = tell 5\ng = f()", "run g", "done 5 0 0 5")
        self.says("f n = f(tell n)", "run f 8", "long 0 0" + " 8" * 3000)

    def test_run_by_three_thousand_asks(self):
        text = "f n m = if m then f(n, (m - 1)) else if n then f((n - 1), 999) else 1"
        self.says(text, "run f 2 998", "done 1 0 0")
        self.says(text, "run f 2 999", "done 1 0 0")
        self.says(text, "run f 3 0", "long 0 0")
        self.says("f n = (if n then f((n - 1)) else 0 + 1)", "run f 2", "done 3 2 3")

    def test_turned(self):
        self.says(SUM, "turned", "sum aq = if aq {post aq bq {give (aq + bq) to home} ask sum((aq - 1)) to aq} else {give 0 to home}")
        self.says("f = 1", "turned", "f = give 1 to home")
        self.says("f = tell 1\ng b a = f()", "turned", "f = tell 1 as aq; give aq to home\ng aq bq = ask f() to home")

    def test_slim(self):
        text = "f a = let x be f(a) in x"
        self.says(text, "turned", "f aq = post aq bq {give bq to home} ask f(aq) to aq")
        self.says(text, "slim", "f aq = ask f(aq) to home")
        self.says(SUM, "slim", desk_with(SUM).say("turned"))
        # Words are told anew when idle posts are put out.
        self.says("f a = let x be f(a) in let y be a in (y + 1)", "slim", "f aq = post aq bq {let cq be aq; give (cq + 1) to home} ask f(aq) to aq")
        self.says("f a = let x be let y be tell a in f(y) in x", "slim", "f aq = tell aq as bq; ask f(bq) to home")

    def test_named(self):
        self.says(SUM, "named", "sum aq = if aq then let bq be sum((aq - 1)) in (aq + bq) else 0")
        self.says("f b a = tell (a + b)", "named", "f aq bq = let cq be tell (bq + aq) in cq")
        self.says("f = 1\ng zz = zz", "named", "f = 1\ng aq = aq")

    def test_most(self):
        for f, expected in (("up", "most 1"), ("down", "most 0"), ("ever", "ring"), ("one", "most 1")):
            self.says(TEXT, "most " + f, expected)
        self.says(SUM, "most sum", "ring")
        self.says("f = (g() + g())\ng = (1 + h())\nh = k()\nk = 3", "most f", "most 2")
        # Whether or not a run comes there.
        self.says("f = if 0 then (f() + 1) else 0", "most f", "ring")

    def test_carried(self):
        self.says(SUM, "carried sum", "sum aq bq = if aq {ask sum((aq - 1), (bq + (aq + 0))) to home} else {give (0 + bq) to home}")
        self.says("f a = f((a + 1))", "carried f", "f aq bq = ask f((aq + 1), bq) to home")
        self.says("f a = g(a)\ng b = f(b)", "carried f", "f aq bq = post aq cq {give (cq + bq) to home} ask g(aq) to aq\ng aq = ask f(aq, 0) to home")
        self.says("f a = g(a)\ng b = f(b)", "carried g", "f aq = ask g(aq, 0) to home\ng aq bq = post aq cq {give (cq + bq) to home} ask f(aq) to aq")

    def test_never_carried(self):
        self.says("f a = (1 - f(a))", "carried f", "never 1")
        self.says("f a = if a then (a + f((a - 1))) else tell (f(0) + 1)", "carried f", "never 2.1")
        self.says("f a = let x be tell a in if x then 1 else tell f(x)", "carried f", "never 1.2.1")
        self.says("f a = if a then (f(1) + f(2)) else 0", "carried f", "never 1.1")
        self.says(TEXT, "carried down", desk_with(TEXT).say("carried down"))

    def test_laid_ahead_of_carried(self):
        # Turned alone, f's ask hands on a post that an if stands in.
        text = "f a = (1 + if a then f((a - 1)) else 0)"
        self.says(
            text,
            "carried f",
            "f aq bq = if aq {ask f((aq - 1), (bq + (1 + 0))) to home} else {let cq be 0; give ((1 + cq) + bq) to home}",
        )

    def test_by_all_stages(self):
        seen = {"never": 0, "carried": 0, "ring": 0, "most": 0, "refused": 0}
        for seed in range(250):
            maker = BookMaker(seed, 14)
            book = maker.book()
            if why_no_book(book) is not None:
                continue
            desk = desk_with(write_all(book, write))
            turned = turn_book(book)
            self.assertEqual(desk.say("turned"), write_all(anew_reference(turned), write_part))
            self.assertEqual(desk.say("slim"), write_all(anew_reference(slim(turned)), write_part))
            self.assertEqual(desk.say("named"), write_all(book_anew_reference(named_book(book)), write))
            f, numbers = maker.asking()
            trail, end, deepest, left = run(book, f, numbers, 3000)
            told = [one[1] for one in trail if one[0] == "tell"]
            self.assertEqual(desk.say(" ".join(map(str, ["run", f, *numbers]))), " ".join(map(str, [*end, deepest, left, *told])))
            weight = greatest_weight(turned, f)
            self.assertEqual(desk.say("most " + f), "ring" if weight is None else f"most {weight}")
            seen["ring" if weight is None else "most"] += 1
            seen[self.carried_as_stages_have_it(desk, turned, f)] += 1
        self.assertGreater(min(seen["never"], seen["carried"], seen["ring"], seen["most"]), 15)

    def carried_as_stages_have_it(self, desk, turned, f):
        try:
            made = laid(turned)
        except TooGreat:
            with self.assertRaises(TooGreat):
                desk.say("carried " + f)
            return "refused"
        place = not_carried_at(made, f)
        if place is None:
            self.assertEqual(desk.say("carried " + f), write_all(anew_reference(carried(made, f)), write_part))
            return "carried"
        self.assertEqual(desk.say("carried " + f), "never " + ".".join(str(k) for k in place[1:]))
        return "never"


class DesksTest(unittest.TestCase):
    def test_a_second_book_in_the_elder_ones_stead(self):
        desk = desk_with(SUM)
        desk.say("book\nf = 8")
        self.assertEqual(desk.say("run f"), "done 8 0 0")
        self.assertEqual(desk.say("turned"), "f = give 8 to home")
        with self.assertRaises(NoAsking):
            desk.say("run sum 3")

    def test_two_desks_do_not_mind_one_another(self):
        one, two, three = desk_with("f = 1"), desk_with("f = 2"), Desk()
        self.assertEqual([desk.say("run f") for desk in (one, two, one)], ["done 1 0 0", "done 2 0 0", "done 1 0 0"])
        with self.assertRaises(NoStand):
            three.say("run f")
        two.say("book\nf = 3")
        self.assertEqual([desk.say("run f") for desk in (one, two)], ["done 1 0 0", "done 3 0 0"])

    def test_say_is_defined_in_the_class_itself(self):
        self.assertIn("say", vars(Desk))


class RefusalsTest(unittest.TestCase):
    def refused(self, refusal, desk, *rows):
        for row in rows:
            with self.subTest(row=row[:60]), self.assertRaises(refusal) as caught:
                desk.say(row)
            self.assertIsInstance(caught.exception, NextError)
        return caught.exception

    def no_row(self, *rows):
        """Refused with a book and without one."""
        desk = desk_with(TEXT)
        self.refused(NoRow, desk, *rows)
        self.assertEqual(desk.say("run down 0"), "done 7 0 0 0")
        self.refused(NoRow, Desk(), *rows)

    def test_words_that_are_none(self):
        self.no_row("", " ", "\n", "books\nf = 1", "Book\nf = 1", "tell", "runs f", "RUN down 1", "Turned", "laid", "turn", "back", "f", "down 1", "1", "ring", "ok")

    def test_book_without_a_line_end_right_behind_it(self):
        self.no_row("book", "book ", "book f = 1", "book \nf = 1", " book\nf = 1", "\nbook\nf = 1", "bookf = 1")

    def test_words_too_many_or_too_few(self):
        self.no_row("turned x", "turned 1", "slim f", "named down", "most", "most down up", "most down 1", "carried", "carried down 1", "run")

    def test_blanks_too_many(self):
        self.no_row("turned ", " turned", "slim ", " slim", "named ", " named", "most ", "most  down", " most down", "most down ")
        self.no_row("carried ", "carried  down", "carried down ", "run ", "run  down 1", "run down  1", "run down 1 ", " run down 1", "run up 1  2", "run one ")

    def test_line_ends(self):
        self.no_row("turned\n", "\nturned", "most down\n", "most\ndown", "run down 1\n", "run down\n1", "run\ndown 1", "run down 1\nturned", "slim\nf = 1")

    def test_an_f_that_is_no_word(self):
        for f in ("F", "1", "down1", "do-wn", "abcdefghi", "let", "be", "in", "tell", "if", "then", "else", "home", "down,", "(down)"):
            self.no_row("run " + f, "run " + f + " 1", "most " + f, "carried " + f)

    def test_numbers_that_are_none(self):
        for n in ("00", "01", "007", "000", "1000", "0000", "9999", "-1", "+1", "1.0", "a", "one", "1a", "n", "1,2", "(1)", "1_0"):
            self.no_row("run down " + n, "run up 1 " + n, "run up " + n + " 1", "run z " + n, "run one " + n)

    def test_no_stand(self):
        rows = ("turned", "slim", "named", "most f", "carried f", "run f", "run f 1", "run f 1 2 3 4 5 6", "most homes", "run abcdefgh 0 999")
        self.refused(NoStand, Desk(), *rows)
        # A book that was refused is none.
        desk = Desk()
        self.refused(NoText, desk, "book\nf")
        self.refused(NoBook, desk, "book\nf = a")
        self.refused(NoStand, desk, *rows)
        self.assertEqual(desk.say("book\nf = 1"), "ok")

    def test_no_asking(self):
        desk = desk_with(TEXT)
        self.refused(NoAsking, desk, "run z", "run z 1", "most z", "carried z", "most downs", "carried abcdefgh", "run n 1")
        self.refused(NoAsking, desk, "run down", "run down 1 2", "run up 1", "run up 1 2 3", "run one 0", "run down 1 2 3 4 5 6 7 8")
        self.assertEqual(desk.say("run down 0"), "done 7 0 0 0")

    def test_no_text(self):
        desk = desk_with(TEXT)
        self.refused(NoText, desk, "book\n", "book\n\nf = 1", "book\nf = 1\n", "book\nf = 01", "book\nf  = 1", "book\nbook\nf = 1", "book\n f = 1")
        self.assertEqual(desk.say("run down 0"), "done 7 0 0 0")

    def test_no_book(self):
        desk = desk_with(TEXT)
        self.assertEqual(self.refused(NoBook, desk, "book\nf = a").fault, "names")
        self.assertEqual(self.refused(NoBook, desk, "book\nf = 1\nf = 2").fault, "names")
        self.assertEqual(self.refused(NoBook, desk, "book\nf = " + "tell " * 13 + "1").fault, "great")
        self.assertEqual(desk.say("run down 0"), "done 7 0 0 0")

    def test_too_great(self):
        # Each if put by another one doubles what is laid behind it.
        body = "let {} be if a then 1 else 2 in "
        great = "".join(body.format(x) for x in "klmnop") + "1"
        text = "g = 1\nf a = " + great + "\nh = 2"
        desk = desk_with(text)
        self.assertEqual(self.refused(TooGreat, desk, "carried f", "carried g", "carried h").name, "f")
        self.refused(NoAsking, desk, "carried z")
        self.assertEqual(desk.say("most f"), "most 0")
        self.assertEqual(desk.say("run f 0"), "done 1 0 6")
        self.assertEqual(desk.say("turned"), desk_with(text).say("turned"))

    def test_a_refused_row_changes_nothing(self):
        desk = desk_with(SUM)
        rows = ("turned", "slim", "named", "most sum", "carried sum", "run sum 5")
        expected = [desk.say(row) for row in rows]
        for refusal, row in ((NoRow, "x"), (NoRow, "run sum  1"), (NoAsking, "run z"), (NoText, "book\n"), (NoBook, "book\nf = z"), (NoRow, "book")):
            self.refused(refusal, desk, row)
            self.assertEqual([desk.say(row) for row in rows], expected)

    def test_every_sort(self):
        desk = desk_with(show_book(EVERY_SORT))
        self.assertEqual(desk.say("most f"), "most 1")
        self.assertEqual(desk.say("run f 4 6"), "done 995 1 1 6")


if __name__ == "__main__":
    unittest.main()
