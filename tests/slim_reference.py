"""A second way to make turned books slim, and a way to put idle posts in.

It puts out one idle post at a time, any one. It calls itself for each part and
shares nothing with the program.
"""

from itertools import count

from tests.turned_terms import letters


def inner(part):
    """The turned parts right in this one, each behind its own number in the part and in the tuple."""
    sort = part[0]
    if sort == "if":
        return [(1, 2, part[2]), (2, 3, part[3])]
    if sort == "post":
        return [(0, 3, part[3]), (1, 4, part[4])]
    return [(1, 3, part[3])] if sort in ("tell", "let") else []


def goes_to(part):
    return {"give": 1, "ask": 3}.get(part[0])


def uses(part, j):
    at = goes_to(part)
    return (at is not None and part[at] == j) or any(uses(one, j) for _, _, one in inner(part))


def with_item(part, at, item):
    return part[:at] + (item,) + part[at + 1 :]


def to_another(part, j, k):
    at = goes_to(part)
    if at is not None:
        return with_item(part, at, k) if part[at] == j else part
    for _, at, one in inner(part):
        part = with_item(part, at, to_another(one, j, k))
    return part


def idle_reference(part, place):
    """The places of all idle posts, with a way to each through the tuples."""
    found = []

    def walk(one, place, way):
        if one[0] == "post":
            head, j, x, t, u = one
            if t == ("give", t[1], ("name", x)) or not uses(u, j):
                found.append((place, way))
        for k, at, below in inner(one):
            walk(below, place + (k,), way + (at,))

    walk(part, place, ())
    return found


def without_one(part, way):
    if way:
        return with_item(part, way[0], without_one(part[way[0]], way[1:]))
    head, j, x, t, u = part
    return to_another(u, j, t[1]) if t == ("give", t[1], ("name", x)) else u


def slim_reference(turned, chance):
    """The idle posts of each errand put out in an order made by chance."""

    def body_of(body):
        while found := idle_reference(body, ()):
            body = without_one(body, chance.choice(found)[1])
        return body

    return tuple((name, names, body_of(body)) for name, names, body in turned)


def with_idle_posts(turned, chance, many):
    """The turned book with so many idle posts put in, or fewer, its words being short."""
    new = (letters(k) for k in count())

    def put_in(part, words, hands):
        """The part, and whether it has one more post in it now."""
        below = inner(part)
        if below and chance.random() < 0.7:
            _, at, one = chance.choice(below)
            around = words + ([part[2]] if part[0] == "post" and at == 3 else [])
            around = around + ([part[1]] if part[0] in ("tell", "let") else [])
            held = hands + ([part[1]] if part[0] == "post" and at == 4 else [])
            return with_item(part, at, put_in(one, around, held))
        j, x = next(new), next(new)
        k = chance.choice(hands)
        if chance.random() < 0.5:
            return ("post", j, x, ("give", k, ("name", x)), to_another(part, k, j))
        named = ("name", chance.choice([x, *words]))
        return ("post", j, x, ("tell", next(new), named, ("give", k, ("plus", named, named))), part)

    for _ in range(many):
        at = chance.randrange(len(turned))
        name, names, body = turned[at]
        turned = with_item(turned, at, (name, names, put_in(body, list(names), ["home"])))
    return turned
