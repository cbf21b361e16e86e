"""The desk: rows of words told to it, each answered with a text."""

from whatnext.anew import anew, book_anew
from whatnext.back import named_book
from whatnext.books import is_word
from whatnext.carried import carried, not_carried_at
from whatnext.errors import NoRow, NoStand
from whatnext.laid import laid
from whatnext.needs import need_errand
from whatnext.reading import is_figures
from whatnext.runs import MOST_ASKS, run
from whatnext.slim import slim
from whatnext.texts import read_book, show_book, show_turned
from whatnext.turning import turn_book
from whatnext.waits import most_waiting

BOOK_ROW = "book\n"


def turned_text(book):
    return show_turned(anew(turn_book(book)))


def slim_text(book):
    return show_turned(anew(slim(turn_book(book))))


def named_text(book):
    return show_book(book_anew(named_book(book)))


def most_text(book, f):
    head, row, levels = most_waiting(turn_book(book), f)
    # The level of the errand told of is the row's weight.
    return f"{head} {levels[f]}" if head == "most" else head


def carried_text(book, f):
    # That f is no errand is told ahead of what laid refuses.
    need_errand(book, f)
    turned = laid(turn_book(book))
    place = not_carried_at(turned, f)
    if place is not None:
        return "never " + ".".join([str(k) for k in place[1:]])
    return show_turned(anew(carried(turned, f)))


def run_text(book, f, numbers):
    trail, end, deepest, left = run(book, f, numbers, MOST_ASKS)
    told = [one[1] for one in trail if one[0] == "tell"]
    return " ".join([str(one) for one in [*end, deepest, left, *told]])


PLAIN_ROWS = {"turned": turned_text, "slim": slim_text, "named": named_text}
ERRAND_ROWS = {"most": most_text, "carried": carried_text}


class Desk:
    """Keeps the book that was told to it last."""

    def __init__(self):
        self.book = None

    def say(self, row):
        if row.startswith(BOOK_ROW):
            self.book = read_book(row[len(BOOK_ROW):])
            return "ok"
        words = row.split(" ")
        if not is_row(words):
            raise NoRow("no row has these words")
        if self.book is None:
            raise NoStand("there is no book yet")
        return answer_to(words, self.book)


def is_row(words):
    """Whether these are the words of a row other than that of a book."""
    if words[0] in PLAIN_ROWS:
        return len(words) == 1
    if words[0] in ERRAND_ROWS:
        return len(words) == 2 and is_word(words[1])
    if words[0] != "run" or len(words) == 1:
        return False
    return is_word(words[1]) and all([is_figures(word) for word in words[2:]])


def answer_to(words, book):
    if words[0] in PLAIN_ROWS:
        answer = PLAIN_ROWS[words[0]]
        return answer(book)
    if words[0] in ERRAND_ROWS:
        answer_of = ERRAND_ROWS[words[0]]
        return answer_of(book, words[1])
    return run_text(book, words[1], tuple([int(word) for word in words[2:]]))
