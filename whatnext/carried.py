"""Laid books carried: what an errand's own asks add up is handed on as one number more."""

from whatnext.books import errand_named, parts_of
from whatnext.errors import NoCarry
from whatnext.needs import need_errand
from whatnext.newwords import NewWords
from whatnext.turnedbooks import HOME, posts_met, rest_of, turned_parts, with_rest, words_met
from whatnext.walks import met, placed, remade

NOUGHT = ("number", 0)


def not_carried_at(turned, f):
    """The least place in f of an ask of f that hands on a post which does more than add up, or None."""
    need_errand(turned, f)
    name, names, body = errand_named(turned, f)
    found = dict(placed(f, body, turned_parts))
    for place, part in found.items():
        is_own = part[0] == "ask" and part[1] == f
        # Laid, the ask that hands on a post is right in it.
        if is_own and part[3] != HOME and not is_added_up(found[place[:-1]]):
            return place
    return None


def is_added_up(post):
    """Whether T gives home a sum in which the post's word stands once, and nothing is taken from it by it."""
    head, j, x, then, asked = post
    if then[0] != "give":
        return False
    terms = met(then[2], parts_of)
    taken = [one for term in terms if term[0] == "less" for one in met(term[2], parts_of)]
    return terms.count(("name", x)) == 1 and ("name", x) not in taken


def carried(turned, f):
    place = not_carried_at(turned, f)
    if place is not None:
        raise NoCarry(place)
    return tuple([carried_errand(name, names, body, f) for name, names, body in turned])


def carried_errand(name, names, body, f):
    if name != f:
        return name, names, remade(body, rest_of, lambda part, rest: asked_more(with_rest(part, rest), f, NOUGHT))
    carrying = Carrying(f, NewWords([*words_met(names, body), *posts_met(body)]))
    return name, (*names, carrying.word), remade(body, rest_of, lambda part, rest: carrying.carried_part(part, rest))


def asked_more(part, f, term):
    """The part with one term more where it asks f."""
    if part[0] != "ask" or part[1] != f:
        return part
    return "ask", f, (*part[2], term), part[3]


class Carrying:
    """Errand f's own body on its way to being carried."""

    def __init__(self, f, new_words):
        self.f = f
        self.new_words = new_words
        self.word = new_words.one_more()
        self.carry = ("name", self.word)

    def carried_part(self, part, rest):
        """The part with this rest in it, which is carried; asks that hand on a post are done with that."""
        if part[0] == "give":
            return "give", HOME, ("plus", part[2], self.carry)
        if part[0] == "post" and part[4][1] == self.f:
            return self.added_up(part)
        if part[0] == "ask" and part[3] == HOME:
            return self.asked_home(part)
        return with_rest(part, rest)

    def asked_home(self, part):
        head, g, terms, home = part
        if g == self.f:
            return asked_more(part, g, self.carry)
        j = self.new_words.one_more()
        x = self.new_words.one_more()
        return "post", j, x, ("give", HOME, ("plus", ("name", x), self.carry)), (head, g, terms, j)

    def added_up(self, post):
        """The ask in the stead of a post around it, whose sum is carried."""
        head, j, x, then, asked = post
        others = remade(then[2], parts_of, lambda term, own: term_without(term, own, x))
        return "ask", self.f, (*asked[2], ("plus", self.carry, others)), HOME


def term_without(term, own, x):
    """The simple term of these own parts, 0 standing for x."""
    if term[0] == "number":
        return term
    if term[0] == "name":
        return NOUGHT if term[1] == x else term
    return term[0], *own
