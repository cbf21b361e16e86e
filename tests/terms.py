"""Short names for making terms, and books that several tests use."""


def num(n):
    return ("number", n)


def name(x):
    return ("name", x)


def plus(a, b):
    return ("plus", a, b)


def less(a, b):
    return ("less", a, b)


def tell(a):
    return ("tell", a)


def let(x, a, b):
    return ("let", x, a, b)


def when(a, b, c):
    return ("if", a, b, c)


def ask(f, *terms):
    return ("ask", f, terms)


def book_of(body, *names):
    """A book of one errand, f."""
    return (("f", names, body),)


def chain(around):
    """A number that stands within so many tells."""
    term = num(1)
    for _ in range(around):
        term = tell(term)
    return term


def broad(terms):
    """A term of so many terms, itself counted, few of them within one another."""
    if terms == 1:
        return num(1)
    if terms == 2:
        return tell(num(1))
    half = (terms - 1) // 2
    return plus(broad(half), broad(terms - 1 - half))


# Each sort of term at least once.
EVERY_SORT = (
    (
        "f",
        ("a", "b"),
        let(
            "x",
            ask("g", plus(name("a"), num(1)), tell(name("b"))),
            when(name("x"), less(name("x"), name("a")), ask("h")),
        ),
    ),
    ("g", ("c", "d"), less(name("c"), name("d"))),
    ("h", (), num(7)),
)
