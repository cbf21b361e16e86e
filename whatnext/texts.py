"""Texts of books and turned books, and books read from texts."""

from whatnext.books import MOST_ERRANDS, SIMPLE_HEADS, is_short_tuple, is_word, need_book, parts_of
from whatnext.errors import NoText
from whatnext.reading import read_term
from whatnext.turnedbooks import turned_parts
from whatnext.walks import remade

BODY_SIGN = "="


def show_book(book):
    return shown(book, parts_of, shown_term)


def show_turned(turned):
    return shown(turned, turned_parts, shown_part)


def shown(errands, parts, text_of):
    """A line for each errand, text_of telling the text of a part by those of its own parts."""
    return "\n".join([
        " ".join([name, *names, BODY_SIGN, remade(body, parts, text_of)])
        for name, names, body in errands
    ])


def shown_term(term, own):
    """The text of a term, own being those of its parts."""
    head = term[0]
    if head == "number":
        return str(term[1])
    if head == "name":
        return term[1]
    if head == "plus":
        return f"({own[0]} + {own[1]})"
    if head == "less":
        return f"({own[0]} - {own[1]})"
    if head == "tell":
        return f"tell {own[0]}"
    if head == "let":
        return f"let {term[1]} be {own[0]} in {own[1]}"
    if head == "if":
        return f"if {own[0]} then {own[1]} else {own[2]}"
    return shown_ask(term[1], own)


def shown_ask(f, own):
    return f + "(" + ", ".join(own) + ")"


def shown_part(part, own):
    """The text of a turned part or a simple term, own being those of its parts."""
    head = part[0]
    if head in SIMPLE_HEADS:
        return shown_term(part, own)
    if head == "give":
        return f"give {own[0]} to {part[1]}"
    if head == "ask":
        return f"ask {shown_ask(part[1], own)} to {part[3]}"
    if head == "tell":
        return f"tell {own[0]} as {part[1]}; {own[1]}"
    if head == "let":
        return f"let {part[1]} be {own[0]}; {own[1]}"
    if head == "if":
        return f"if {own[0]} {{{own[1]}}} else {{{own[2]}}}"
    return f"post {part[1]} {part[2]} {{{own[0]}}} {own[1]}"


def read_book(text):
    """The book that the text writes; else refused with NoText or NoBook."""
    lines = text.split("\n")
    if len(lines) > MOST_ERRANDS:
        raise NoText("there are too many errands")
    book = tuple([read_errand(line) for line in lines])
    need_book(book)
    return book


def read_errand(line):
    head, sign, body = line.partition(f" {BODY_SIGN} ")
    name, *names = head.split(" ")
    if not all([is_word(word) for word in [name, *names]]) or not is_short_tuple(tuple(names)):
        raise NoText("a line begins with an errand's name and names")
    return name, tuple(names), read_term(body)
