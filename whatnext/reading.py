"""Terms and numbers read from texts.

Nothing here calls itself: what is still to be read is kept as jobs, in the order
in which they are due.
"""

from whatnext.books import MOST_NAMES, is_word
from whatnext.errors import NoText
from whatnext.walks import last_taken

LETTERS = "abcdefghijklmnopqrstuvwxyz"
FIGURES = "0123456789"
MOST_FIGURES = 3
MOST_AROUND_READ = 100

# The sort of a term that has these signs between its parts.
OPERATORS = {" + ": "plus", " - ": "less"}


def is_figures(text):
    """Whether a number is written so."""
    if not 1 <= len(text) <= MOST_FIGURES or not all([sign in FIGURES for sign in text]):
        return False
    return text == "0" or text[0] != "0"


def read_term(text):
    """The term that the whole text writes; else refused with NoText."""
    reading = Reading(text)
    reading.go()
    return reading.got.pop()


class Reading:
    """A term's text on its way: how far it is read, what is due, and what is read and not yet used."""

    def __init__(self, text):
        self.text = text
        self.at = 0
        self.jobs = []
        self.got = []

    def go(self):
        self.jobs.append(("term", 0))
        while self.jobs:
            job = self.jobs.pop()
            if job[0] == "term":
                self.begin(job[1])
            elif job[0] == "sign":
                self.take(job[1])
            elif job[0] == "operator":
                self.operator(job[1])
            elif job[0] == "more":
                self.more(job[1], job[2], job[3])
            else:
                self.got.append((*job[1], *last_taken(self.got, job[2])))
        if self.at != len(self.text):
            raise NoText("there is more than a term")

    def due(self, jobs):
        self.jobs.extend(jobs[::-1])

    def begin(self, around):
        """Read a term's first word or sign, around terms being around it."""
        if around > MOST_AROUND_READ:
            raise NoText("a term is within too many others")
        if self.is_next("("):
            self.take("(")
            self.due([("term", around + 1), ("operator", around + 1)])
            return
        figures = self.taken_of(FIGURES)
        if figures == "":
            self.begin_by_word(self.taken_of(LETTERS), around)
        elif is_figures(figures):
            self.got.append(("number", int(figures)))
        else:
            raise NoText("no number is written so")

    def begin_by_word(self, word, around):
        term = ("term", around + 1)
        if word == "tell":
            self.due([("sign", " "), term, ("made", ("tell",), 1)])
        elif word == "let":
            self.take(" ")
            x = self.word_taken(self.taken_of(LETTERS))
            self.due([("sign", " be "), term, ("sign", " in "), term, ("made", ("let", x), 2)])
        elif word == "if":
            parts = [("sign", " "), term, ("sign", " then "), term, ("sign", " else "), term]
            self.due([*parts, ("made", ("if",), 3)])
        else:
            self.begin_name_or_ask(self.word_taken(word), around)

    def begin_name_or_ask(self, word, around):
        if not self.is_next("("):
            self.got.append(("name", word))
            return
        self.take("(")
        if self.is_next(")"):
            self.finish_ask(word, 0)
        else:
            self.due([("term", around + 1), ("more", word, 1, around + 1)])

    def operator(self, around):
        """Read the sign between a sum's parts, or a difference's."""
        signs = self.text[self.at : self.at + 3]
        if signs not in OPERATORS:
            raise NoText("a plus or less is due")
        self.take(signs)
        self.due([("term", around), ("sign", ")"), ("made", (OPERATORS[signs],), 2)])

    def more(self, f, many, around):
        """Read what is behind a term in an ask of f, many of them being read."""
        if not self.is_next(", "):
            self.finish_ask(f, many)
            return
        if many == MOST_NAMES:
            raise NoText("an ask has too many terms")
        self.take(", ")
        self.due([("term", around), ("more", f, many + 1, around)])

    def finish_ask(self, f, many):
        self.take(")")
        self.got.append(("ask", f, last_taken(self.got, many)))

    def word_taken(self, word):
        if not is_word(word):
            raise NoText("a word is due")
        return word

    def is_next(self, signs):
        return self.text[self.at : self.at + len(signs)] == signs

    def take(self, signs):
        if not self.is_next(signs):
            raise NoText("other signs are due")
        self.at += len(signs)

    def taken_of(self, signs):
        """All that comes next and is one of these signs."""
        first = self.at
        while self.at < len(self.text) and self.text[self.at] in signs:
            self.at += 1
        return self.text[first : self.at]
