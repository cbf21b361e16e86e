"""Books: errands, the terms of their bodies, and the places of these.

Nothing here calls itself: terms may lie deep within one another, so what is
still to be looked at is kept in a list.
"""

from whatnext.errors import NoBook

KEPT_WORDS = ("let", "be", "in", "tell", "if", "then", "else", "home")
MOST_SIGNS = 8
MOST_NUMBER = 999
MOST_ERRANDS = 6
MOST_NAMES = 4
MOST_TERMS = 40
MOST_AROUND = 12

# How many items a term has, by its first one, which is counted.
TERM_ITEMS = {"number": 2, "name": 2, "plus": 3, "less": 3, "tell": 2, "let": 4, "if": 4, "ask": 3}


def is_word(thing):
    if not isinstance(thing, str) or thing in KEPT_WORDS:
        return False
    return 1 <= len(thing) <= MOST_SIGNS and all(["a" <= sign <= "z" for sign in thing])


def is_whole(thing):
    return isinstance(thing, int) and not isinstance(thing, bool)


def is_number(thing):
    return is_whole(thing) and 0 <= thing <= MOST_NUMBER


def parts_of(term):
    """The terms right in this one, in order."""
    if term[0] in ("number", "name"):
        return ()
    if term[0] == "ask":
        return term[2]
    if term[0] == "let":
        return term[2:]
    return term[1:]


def is_simple(term):
    waiting = [term]
    while waiting:
        one = waiting.pop()
        if one[0] not in ("number", "name", "plus", "less"):
            return False
        waiting.extend(parts_of(one))
    return True


def errand_named(book, f):
    """The errand of this name, or None."""
    for errand in book:
        if errand[0] == f:
            return errand
    return None


def placed_terms(name, body):
    """Each term of the body behind its place, as places rise."""
    found = []
    waiting = [((name,), body)]
    while waiting:
        place, term = waiting.pop()
        found.append((place, term))
        parts = parts_of(term)
        # The last one put here is taken first, so the first part goes in last.
        for k in reversed(range(len(parts))):
            waiting.append(((*place, k), parts[k]))
    return found


def all_places(book):
    places = []
    for name, names, body in book:
        places.extend([place for place, term in placed_terms(name, body)])
    return places


def term_at(book, place):
    term = errand_named(book, place[0])[2]
    for k in place[1:]:
        term = parts_of(term)[k]
    return term


def why_no_book(thing):
    """Of anything: "shape", "names" or "great", or None where it is a book."""
    if not is_made_as_book(thing):
        return "shape"
    if not have_names_right(thing):
        return "names"
    if any([is_great(name, body) for name, names, body in thing]):
        return "great"
    return None


def need_book(thing):
    fault = why_no_book(thing)
    if fault is not None:
        raise NoBook(fault)


def is_made_as_book(thing):
    if not isinstance(thing, tuple) or not 1 <= len(thing) <= MOST_ERRANDS:
        return False
    return all([is_made_as_errand(errand) for errand in thing])


def is_made_as_errand(thing):
    if not isinstance(thing, tuple) or len(thing) != 3:
        return False
    name, names, body = thing
    if not is_word(name) or not is_short_tuple(names):
        return False
    return all([is_word(word) for word in names]) and is_made_as_term(body)


def is_short_tuple(thing):
    """Whether it can be an errand's names or the terms in an ask, as to its length."""
    return isinstance(thing, tuple) and len(thing) <= MOST_NAMES


def is_made_as_term(thing):
    waiting = [thing]
    while waiting:
        one = waiting.pop()
        if not has_own_items_right(one):
            return False
        waiting.extend(parts_of(one))
    return True


def has_own_items_right(thing):
    """Whether all is made as in a term but, perhaps, what its parts are."""
    if not isinstance(thing, tuple) or not thing or not isinstance(thing[0], str):
        return False
    head = thing[0]
    if TERM_ITEMS.get(head) != len(thing):
        return False
    if head == "number":
        return is_number(thing[1])
    if head in ("name", "let"):
        return is_word(thing[1])
    if head == "ask":
        return is_word(thing[1]) and is_short_tuple(thing[2])
    return True


def have_names_right(errands):
    """Whether things made as errands have the names, and ask, as in a book."""
    many = {name: len(names) for name, names, body in errands}
    if len(many) != len(errands):
        return False
    for name, names, body in errands:
        if not are_words_unlike(name, names, body) or not are_names_around(names, body):
            return False
        if not are_asks_right(name, body, many):
            return False
    return True


def are_words_unlike(name, names, body):
    words = list(names)
    for place, term in placed_terms(name, body):
        if term[0] == "let":
            words.append(term[1])
    return len(set(words)) == len(words)


def are_names_around(names, body):
    """Whether each name is one of names or the word of a let in whose B it stands."""
    waiting = [(names, body)]
    while waiting:
        around, term = waiting.pop()
        if term[0] == "name" and term[1] not in around:
            return False
        if term[0] == "let":
            waiting.append((around, term[2]))
            waiting.append(((*around, term[1]), term[3]))
        else:
            waiting.extend([(around, part) for part in parts_of(term)])
    return True


def are_asks_right(name, body, many):
    """Whether each ask is of an errand, with as many terms as many tells of it."""
    for place, term in placed_terms(name, body):
        if term[0] == "ask" and many.get(term[1]) != len(term[2]):
            return False
    return True


def is_great(name, body):
    placed = placed_terms(name, body)
    # A place has, behind the errand's name, a number for each term around.
    return len(placed) > MOST_TERMS or any([len(place) - 1 > MOST_AROUND for place, term in placed])
