"""Short names for making turned parts, and turned books that several tests use."""

from tests.terms import name, num


def give(j, s):
    return ("give", j, s)


def hand(f, *terms, to="home"):
    """An ask that hands on."""
    return ("ask", f, terms, to)


def told(x, s, t):
    return ("tell", x, s, t)


def held(x, s, t):
    return ("let", x, s, t)


def fork(s, t, u):
    return ("if", s, t, u)


def post(j, x, t, u):
    return ("post", j, x, t, u)


def turned_of(body, *names):
    """A turned book of one errand, f."""
    return (("f", names, body),)


HOME = give("home", num(1))

# Each sort of turned part and of simple term at least once.
EVERY_PART = (
    (
        "f",
        ("a", "b"),
        post(
            "j",
            "x",
            told("y", ("plus", name("x"), name("a")), give("home", name("y"))),
            fork(
                name("a"),
                held("z", ("less", name("b"), num(1)), hand("g", name("z"), num(5), to="j")),
                give("j", num(3)),
            ),
        ),
    ),
    ("g", ("c", "d"), hand("h")),
    ("h", (), give("home", num(7))),
)

# f gives to its home within U of a post, past the hand-on that is due there.
BENT = turned_of(post("j", "x", give("home", name("x")), give("home", num(4))))


def tells(around):
    """A part that stands within so many tells, the term in it within one more."""
    part = HOME
    for k in range(around):
        part = told(letters(k), num(1), part)
    return part


def letters(k):
    """A word for each number, unlike the words of other tests."""
    return "w" + "".join(chr(97 + k // 26**e % 26) for e in (2, 1, 0))


def broad_part(parts):
    """A turned part of so many parts, itself and simple terms counted, few within one another."""
    if parts == 2:
        return HOME
    if parts == 3:
        return hand("two", num(1), num(1))
    if parts == 4:
        return give("home", ("plus", num(1), num(1)))
    if parts == 5:
        return hand("four", num(1), num(1), num(1), num(1))
    half = (parts - 2) // 2
    return fork(num(1), broad_part(half), broad_part(parts - 2 - half))


TWO_AND_FOUR = (("two", ("a", "b"), HOME), ("four", ("a", "b", "c", "d"), HOME))
