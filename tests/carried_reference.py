"""Second ways to tell what hinders carrying, and to carry, from the document's points 31 and 32.

They call themselves for each part and share nothing with the program.
"""

from itertools import count


def signs_of(term, x, sign=1):
    """For each standing of x in the simple term: 1, or -1 where it is in a second part of a less."""
    if term[0] == "name":
        return [sign] if term[1] == x else []
    if term[0] in ("plus", "less"):
        second = -1 if term[0] == "less" else sign
        return signs_of(term[1], x, sign) + signs_of(term[2], x, second)
    return []


def hindered(turned, f):
    """The places of all asks of f in f that hinder it, as tuples rise."""
    found = []

    def walk(part, place, around):
        sort = part[0]
        if sort == "ask" and part[1] == f and part[3] != "home":
            x, t = around[2], around[3]
            if t[:2] != ("give", "home") or signs_of(t[2], x) != [1]:
                found.append(place)
        if sort in ("tell", "let"):
            walk(part[3], place + (1,), None)
        if sort == "if":
            walk(part[2], place + (1,), None)
            walk(part[3], place + (2,), None)
        if sort == "post":
            walk(part[3], place + (0,), None)
            walk(part[4], place + (1,), part)

    for name, names, body in turned:
        if name == f:
            walk(body, (f,), None)
    return sorted(found)


def without(term, x):
    if term == ("name", x):
        return ("number", 0)
    return (term[0], without(term[1], x), without(term[2], x)) if term[0] in ("plus", "less") else term


def asked_more(part, f, term):
    return (*part[:2], (*part[2], term), part[3]) if part[:2] == ("ask", f) else part


def carried_reference(turned, f):
    """Its new words have a sign that no word has."""
    new = ("new." + str(k) for k in count())
    c = ("name", "carry.")

    def own(part):
        sort = part[0]
        if sort == "give":
            return ("give", "home", ("plus", part[2], c))
        if sort == "ask" and part[1] == f:
            return asked_more(part, f, c)
        if sort == "ask":
            j, x = next(new), next(new)
            return ("post", j, x, ("give", "home", ("plus", ("name", x), c)), (*part[:3], j))
        if sort == "post" and part[4][1] == f:
            total = ("plus", c, without(part[3][2], part[2]))
            return ("ask", f, (*part[4][2], total), "home")
        if sort == "post":
            return (*part[:3], own(part[3]), part[4])
        if sort == "if":
            return (*part[:2], own(part[2]), own(part[3]))
        return (*part[:3], own(part[3]))

    def other(part):
        if part[0] == "ask":
            return asked_more(part, f, ("number", 0))
        return tuple(other(one) if isinstance(one, tuple) and one and one[0] in PARTS else one for one in part)

    return tuple(
        (name, names + ("carry.",), own(body)) if name == f else (name, names, other(body)) for name, names, body in turned
    )


PARTS = ("give", "ask", "tell", "let", "if", "post")
