"""Words told anew, so that books which differ in words alone become the same."""

from whatnext.books import parts_of, words_in
from whatnext.turnedbooks import HOME, posts_met, turned_parts, words_met
from whatnext.walks import remade

SIGNS = "abcdefghijklmnopqrstuvwxyz"
BEHIND = "q"


def word_of(k):
    """The word by which number k is told."""
    word = SIGNS[k % len(SIGNS)] + BEHIND
    rest = k // len(SIGNS)
    while rest > 0:
        word = SIGNS[rest % len(SIGNS)] + word
        rest = rest // len(SIGNS)
    return word


def anew(turned):
    return tuple([errand_anew(name, names, body) for name, names, body in turned])


def errand_anew(name, names, body):
    words = numbered(words_met(names, body))
    hands = {**numbered(posts_met(body)), HOME: HOME}
    told = remade(body, turned_parts, lambda part, own: renamed_part(part, own, words, hands))
    return name, tuple([words[x] for x in names]), told


def numbered(words):
    """The word by which each one is told, by their order."""
    return {word: word_of(k) for k, word in enumerate(words)}


def renamed_part(part, own, words, hands):
    """The part with these own parts, its words and posts' words as words and hands tell."""
    head = part[0]
    if head == "give":
        return head, hands[part[1]], *own
    if head == "ask":
        return head, part[1], own, hands[part[3]]
    if head == "tell":
        return head, words[part[1]], *own
    if head == "post":
        return head, hands[part[1]], words[part[2]], *own
    # A let or an if has its words where a book's has them.
    return renamed_term(part, own, words)


def book_anew(book):
    return tuple([book_errand_anew(name, names, body) for name, names, body in book])


def book_errand_anew(name, names, body):
    words = numbered(words_in(names, body))
    told = remade(body, parts_of, lambda term, own: renamed_term(term, own, words))
    return name, tuple([words[x] for x in names]), told


def renamed_term(term, own, words):
    """The term with these own parts, its words as words tells."""
    head = term[0]
    if head == "number":
        return term
    if head == "name":
        return head, words[term[1]]
    if head == "let":
        return head, words[term[1]], *own
    if head == "ask":
        return head, term[1], own
    return head, *own


def are_alike(turned, other):
    """Whether they are equal told anew."""
    return anew(turned) == anew(other)
