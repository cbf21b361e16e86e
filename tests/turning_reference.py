"""Second ways to tell anew, turn, turn back and lay, written from the document.

They call themselves for each part, share nothing with the program, and take and
tell bodies or whole books as they stand in the document's points 15 to 22.
"""

from itertools import count

SIMPLE = ("number", "name", "plus", "less")


def written(k):
    """Number k to the base 26, by letters, and q."""
    return (written(k // 26)[:-1] if k >= 26 else "") + "abcdefghijklmnopqrstuvwxyz"[k % 26] + "q"


def by_errand(book, body_of):
    return tuple((name, names, body_of(names, body)) for name, names, body in book)


class Numbering(dict):
    """Gives each new word the next number's word."""

    def meet(self, word):
        self[word] = written(len(self))
        return self[word]


def anew_reference(turned):
    def errand(name, names, body):
        xs, js = Numbering(), Numbering()
        # In this order: the names first.
        told = tuple(xs.meet(x) for x in names)
        return name, told, part_anew(body, xs, js)

    return tuple(errand(*one) for one in turned)


def part_anew(part, xs, js):
    sort = part[0]
    if sort == "number":
        return part
    if sort == "name":
        return (sort, xs[part[1]])
    if sort in ("plus", "less", "if"):
        return (sort, *[part_anew(one, xs, js) for one in part[1:]])
    if sort == "give":
        return (sort, js.get(part[1], "home"), part_anew(part[2], xs, js))
    if sort == "ask":
        return (sort, part[1], tuple(part_anew(one, xs, js) for one in part[2]), js.get(part[3], "home"))
    if sort == "post":
        head = (sort, js.meet(part[1]), xs.meet(part[2]))
        first = part_anew(part[3], xs, js)
        return (*head, first, part_anew(part[4], xs, js))
    x = xs.meet(part[1])
    term = part_anew(part[2], xs, js)
    return (sort, x, term, part_anew(part[3], xs, js))


def book_anew_reference(book):
    def errand(name, names, body):
        xs = Numbering()
        told = tuple(xs.meet(x) for x in names)
        return name, told, term_anew(body, xs)

    return tuple(errand(*one) for one in book)


def term_anew(term, xs):
    sort = term[0]
    if sort == "number":
        return term
    if sort == "name":
        return (sort, xs[term[1]])
    if sort == "let":
        x = xs.meet(term[1])
        first = term_anew(term[2], xs)
        return (sort, x, first, term_anew(term[3], xs))
    if sort == "ask":
        return (sort, term[1], tuple(term_anew(one, xs) for one in term[2]))
    return (sort, *[term_anew(one, xs) for one in term[1:]])


def is_simple(term):
    if term[0] in ("plus", "less"):
        return is_simple(term[1]) and is_simple(term[2])
    return term[0] in ("number", "name")


class Turner:
    """Each way is handed a function that tells what comes behind, of a simple term."""

    def __init__(self):
        # Words with a sign that no word has, so that they are none of the errand's own.
        self.new = ("new." + str(k) for k in count())

    def done(self, term, j):
        sort = term[0]
        if is_simple(term):
            return ("give", j, term)
        if sort in ("plus", "less"):
            return self.simple_all(term[1:], lambda two: ("give", j, (sort, *two)))
        if sort == "tell":
            x = next(self.new)
            return self.simple(term[1], lambda s: ("tell", x, s, ("give", j, ("name", x))))
        if sort == "ask":
            return self.simple_all(term[2], lambda all_of: ("ask", term[1], all_of, j))
        if sort == "if":
            return self.simple(term[1], lambda s: ("if", s, self.done(term[2], j), self.done(term[3], j)))
        return self.put(term[2], term[1], lambda: self.done(term[3], j))

    def put(self, term, x, then):
        sort = term[0]
        if is_simple(term):
            return ("let", x, term, then())
        if sort in ("plus", "less"):
            return self.simple_all(term[1:], lambda two: ("let", x, (sort, *two), then()))
        if sort == "tell":
            return self.simple(term[1], lambda s: ("tell", x, s, then()))
        if sort == "let":
            return self.put(term[2], term[1], lambda: self.put(term[3], x, then))
        j = next(self.new)
        if sort == "ask":
            return self.simple_all(term[2], lambda all_of: ("post", j, x, then(), ("ask", term[1], all_of, j)))
        return self.simple(
            term[1], lambda s: ("post", j, x, then(), ("if", s, self.done(term[2], j), self.done(term[3], j)))
        )

    def simple(self, term, then):
        sort = term[0]
        if is_simple(term):
            return then(term)
        if sort in ("plus", "less"):
            return self.simple_all(term[1:], lambda two: then((sort, *two)))
        if sort == "let":
            return self.put(term[2], term[1], lambda: self.simple(term[3], then))
        x = next(self.new)
        return self.put(term, x, lambda: then(("name", x)))

    def simple_all(self, terms, then, made=()):
        if not terms:
            return then(made)
        return self.simple(terms[0], lambda s: self.simple_all(terms[1:], then, (*made, s)))


def turn_reference(book):
    return by_errand(book, lambda names, body: Turner().done(body, "home"))


def bent_reference(turned):
    """All places of gives and asks that go elsewhere, errand by errand."""
    found = []

    def walk(place, part, due):
        sort = part[0]
        if (sort == "give" and part[1] != due) or (sort == "ask" and part[3] != due):
            found.append(place)
        if sort in ("tell", "let"):
            walk(place + (1,), part[3], due)
        if sort == "if":
            walk(place + (1,), part[2], due)
            walk(place + (2,), part[3], due)
        if sort == "post":
            walk(place + (0,), part[3], due)
            walk(place + (1,), part[4], part[1])

    for name, names, body in turned:
        walk((name,), body, "home")
    return found


def back_reference(part):
    sort = part[0]
    if sort == "give":
        return part[2]
    if sort == "ask":
        return ("ask", part[1], part[2])
    if sort == "tell":
        return ("let", part[1], ("tell", part[2]), back_reference(part[3]))
    if sort == "let":
        return ("let", part[1], part[2], back_reference(part[3]))
    if sort == "if":
        return ("if", part[1], back_reference(part[2]), back_reference(part[3]))
    return ("let", part[2], back_reference(part[4]), back_reference(part[3]))


def left_out(part, j, x, t):
    """The part, with the post's own T at each give and ask to its j."""
    sort = part[0]
    if sort == "give":
        return ("let", x, part[2], t) if part[1] == j else part
    if sort == "ask":
        return ("post at", j, x, t, part) if part[3] == j else part
    if sort in ("tell", "let"):
        return (*part[:3], left_out(part[3], j, x, t))
    if sort == "if":
        return (*part[:2], *[left_out(one, j, x, t) for one in part[2:]])
    if sort == "post at":
        return (*part[:3], left_out(part[3], j, x, t), part[4])
    return (*part[:3], *[left_out(one, j, x, t) for one in part[3:]])


def laid_outside_in(part):
    """Post after post left out; a post at an ask is one that stays."""
    sort = part[0]
    if sort == "post":
        j, x, t, u = part[1:]
        return laid_outside_in(left_out(u, j, x, t))
    if sort in ("tell", "let"):
        return (*part[:3], laid_outside_in(part[3]))
    if sort == "if":
        return (*part[:2], *[laid_outside_in(one) for one in part[2:]])
    if sort == "post at":
        return ("post", *part[1:3], laid_outside_in(part[3]), part[4])
    return part


def with_new_words(part, xs, js, new):
    """The part with a new word wherever one is given, so that no two are the same."""
    sort = part[0]
    if sort == "number":
        return part
    if sort == "name":
        return (sort, xs[part[1]])
    if sort in ("plus", "less", "if"):
        return (sort, *[with_new_words(one, xs, js, new) for one in part[1:]])
    if sort == "give":
        return (sort, js[part[1]], with_new_words(part[2], xs, js, new))
    if sort == "ask":
        return (sort, part[1], tuple(with_new_words(one, xs, js, new) for one in part[2]), js[part[3]])
    if sort == "post":
        j, x = next(new), next(new)
        first = with_new_words(part[3], {**xs, part[2]: x}, js, new)
        return (sort, j, x, first, with_new_words(part[4], xs, {**js, part[1]: j}, new))
    x = next(new)
    term = with_new_words(part[2], xs, js, new)
    return (sort, x, term, with_new_words(part[3], {**xs, part[1]: x}, js, new))


def laid_reference(turned):
    def body_of(names, body):
        new = ("new." + str(k) for k in count())
        return with_new_words(laid_outside_in(body), {x: x for x in names}, {"home": "home"}, new)

    return by_errand(turned, body_of)
