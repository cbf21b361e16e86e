"""Books: errands, the terms of their bodies, and the places of these.

Nothing here calls itself, as terms may lie deep within one another.
"""

from whatnext.errors import NoBook
from whatnext.walks import met, placed

KEPT_WORDS = ("let", "be", "in", "tell", "if", "then", "else", "home")
MOST_SIGNS = 8
MOST_NUMBER = 999
MOST_ERRANDS = 6
MOST_NAMES = 4
MOST_TERMS = 40
MOST_AROUND = 12

SIMPLE_HEADS = ("number", "name", "plus", "less")

# How many items a term has, by its first one, which is counted.
TERM_ITEMS = {"number": 2, "name": 2, "plus": 3, "less": 3, "tell": 2, "let": 4, "if": 4, "ask": 3}


def is_word(thing):
    if not isinstance(thing, str) or thing in KEPT_WORDS:
        return False
    return 1 <= len(thing) <= MOST_SIGNS and all(["a" <= sign <= "z" for sign in thing])


def is_whole(thing):
    return isinstance(thing, int) and not isinstance(thing, bool)


def is_number(thing):
    return is_whole(thing) and 0 <= thing <= MOST_NUMBER


def parts_of(term):
    """The terms right in this one, in order."""
    if term[0] in ("number", "name"):
        return ()
    if term[0] == "ask":
        return term[2]
    if term[0] == "let":
        return term[2:]
    return term[1:]


def first_parts(term):
    """The parts that are done whatever their numbers are."""
    if term[0] in ("let", "if"):
        return parts_of(term)[:1]
    return parts_of(term)


def is_simple(term):
    return all([one[0] in SIMPLE_HEADS for one in met(term, parts_of)])


def errand_named(book, f):
    """The errand of this name, or None."""
    for errand in book:
        if errand[0] == f:
            return errand
    return None


def all_places(book):
    places = []
    for name, names, body in book:
        places.extend([place for place, term in placed(name, body, parts_of)])
    return places


def term_at(book, place):
    term = errand_named(book, place[0])[2]
    for k in place[1:]:
        term = parts_of(term)[k]
    return term


def words_in(names, body):
    """An errand's names, then the words of its lets as they are met."""
    return [*names, *[term[1] for term in met(body, parts_of) if term[0] == "let"]]


def why_no_book(thing):
    """Of anything: "shape", "names" or "great", or None where it is a book."""
    if not are_made_as_errands(thing, is_made_as_term):
        return "shape"
    if not have_names_right(thing):
        return "names"
    if any([is_great(placed(name, body, parts_of), MOST_TERMS, MOST_AROUND) for name, names, body in thing]):
        return "great"
    return None


def need_book(thing):
    fault = why_no_book(thing)
    if fault is not None:
        raise NoBook(fault)


def are_made_as_errands(thing, is_body):
    """Whether it is made as a book is, is_body telling of a body whether it is made so."""
    if not isinstance(thing, tuple) or not 1 <= len(thing) <= MOST_ERRANDS:
        return False
    return all([is_made_as_errand(errand, is_body) for errand in thing])


def is_made_as_errand(thing, is_body):
    if not isinstance(thing, tuple) or len(thing) != 3:
        return False
    name, names, body = thing
    if not is_word(name) or not is_short_tuple(names):
        return False
    return all([is_word(word) for word in names]) and is_body(body)


def is_short_tuple(thing):
    """Whether it can be an errand's names or the terms in an ask, as to its length."""
    return isinstance(thing, tuple) and len(thing) <= MOST_NAMES


def is_made_as_term(thing):
    waiting = [thing]
    while waiting:
        one = waiting.pop()
        if not has_own_items_right(one):
            return False
        waiting.extend(parts_of(one))
    return True


def has_head(thing):
    """Whether it is a tuple whose first item is a text, as that of each part is."""
    return isinstance(thing, tuple) and len(thing) > 0 and isinstance(thing[0], str)


def has_own_items_right(thing):
    """Whether all is made as in a term but, perhaps, what its parts are."""
    if not has_head(thing) or TERM_ITEMS.get(thing[0]) != len(thing):
        return False
    head = thing[0]
    if head == "number":
        return is_number(thing[1])
    if head in ("name", "let"):
        return is_word(thing[1])
    if head == "ask":
        return is_word(thing[1]) and is_short_tuple(thing[2])
    return True


def have_names_right(errands):
    """Whether things made as errands have the names, and ask, as in a book."""
    many = many_names(errands)
    if len(many) != len(errands):
        return False
    for name, names, body in errands:
        if not are_unlike(words_in(names, body)) or not are_names_around(names, body):
            return False
        if not are_asks_right(met(body, parts_of), many):
            return False
    return True


def many_names(errands):
    """How many names an errand has, by its name."""
    return {name: len(names) for name, names, body in errands}


def are_unlike(words):
    return len(set(words)) == len(words)


def are_names_around(names, body):
    """Whether each name is one of names or the word of a let in whose B it stands."""
    waiting = [(names, body)]
    while waiting:
        around, term = waiting.pop()
        if term[0] == "name" and term[1] not in around:
            return False
        if term[0] == "let":
            waiting.append((around, term[2]))
            waiting.append(((*around, term[1]), term[3]))
        else:
            waiting.extend([(around, part) for part in parts_of(term)])
    return True


def are_asks_right(found, many):
    """Whether each ask found is of an errand, with as many terms as many tells of it."""
    return all([many.get(one[1]) == len(one[2]) for one in found if one[0] == "ask"])


def is_great(found, most, most_around):
    """Whether there are more placed parts than most, or one within more others than most_around."""
    # A place has, behind the errand's name, a number for each part around.
    return len(found) > most or any([len(place) - 1 > most_around for place, part in found])
