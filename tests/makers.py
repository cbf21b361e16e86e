"""Make books and turned books by rule; the same seed makes the same ones."""

import random

from tests.terms import ask, less, let, name, num, plus, tell, when
from tests.turned_terms import fork, give, hand, held, post, told


class Maker:
    """What both sorts of book have: errands, and numbers to ask them with."""

    def __init__(self, seed, most_rest=30):
        self.chance = random.Random(seed)
        self.most_rest = most_rest

    def book(self):
        many = self.chance.randint(1, 4)
        self.errands = {f: self.chance.randint(0, 3) for f in "fghi"[:many]}
        return tuple(self.errand(f) for f in self.errands)

    def errand(self, f):
        names = tuple("abc"[: self.errands[f]])
        self.words = iter("klmnopqrstuvwxyz")
        # The words of posts are words of other things, too.
        self.hands = iter("akblcmdnepgqrs")
        self.rest = self.chance.randint(1, self.most_rest)
        return (f, names, self.body(names))

    def numbers(self, f):
        return tuple(self.chance.choice([0, 1, 2, 500, 999]) for _ in range(self.errands[f]))

    def asking(self):
        """An errand's name, and numbers for it."""
        f = self.chance.choice(sorted(self.errands))
        return f, self.numbers(f)


class BookMaker(Maker):
    def body(self, names):
        return self.term(names, 0)

    def term(self, around, within):
        sort = self.chance.choice(["plus", "less", "tell", "let", "if", "if", "ask", "ask", "leaf"])
        if within > 9 or self.rest < 0 or sort == "leaf":
            return self.leaf(around)
        self.rest -= 3
        below = within + 1
        if sort == "plus":
            return plus(self.term(around, below), self.term(around, below))
        if sort == "less":
            return less(self.term(around, below), self.term(around, below))
        if sort == "tell":
            return tell(self.term(around, below))
        if sort == "if":
            return when(self.term(around, below), self.term(around, below), self.term(around, below))
        if sort == "ask":
            f = self.chance.choice(sorted(self.errands))
            return ask(f, *[self.term(around, below) for _ in range(self.errands[f])])
        x = next(self.words)
        return let(x, self.term(around, below), self.term((*around, x), below))

    def leaf(self, around):
        if around and self.chance.random() < 0.6:
            return name(self.chance.choice(around))
        return num(self.chance.choice([0, 0, 1, 2, 999]))


class TurnedMaker(Maker):
    """Makes bent ones too, but where it is told to make straight ones."""

    def __init__(self, seed, most_rest=30, is_straight=False):
        super().__init__(seed, most_rest)
        self.is_straight = is_straight

    def body(self, names):
        return self.part(names, ("home",), 0)

    def simple(self, around):
        sort = self.chance.choice(["plus", "less", "name", "name", "name", "number"])
        if sort == "name" and around:
            return name(self.chance.choice(around))
        if sort in ("plus", "less") and self.rest > 0:
            self.rest -= 2
            return (plus if sort == "plus" else less)(self.simple(around), self.simple(around))
        return num(self.chance.choice([0, 0, 1, 2, 999]))

    def end(self, words, hands):
        # The last of hands is the one that is due, where all is kept straight.
        to = hands[-1] if self.is_straight or self.chance.random() < 0.5 else self.chance.choice(hands)
        if self.chance.random() < 0.4:
            return give(to, self.simple(words))
        f = self.chance.choice(sorted(self.errands))
        return hand(f, *[self.simple(words) for _ in range(self.errands[f])], to=to)

    def part(self, words, hands, within):
        sort = self.chance.choice(["end", "tell", "let", "if", "post", "post", "post"])
        if sort == "end" and within < 3 and self.rest > 10:
            sort = "post"
        if within > 9 or self.rest < 0 or sort == "end":
            return self.end(words, hands)
        self.rest -= 3
        below = within + 1
        if sort == "if":
            return fork(self.simple(words), self.part(words, hands, below), self.part(words, hands, below))
        x = next(self.words)
        if sort == "post":
            j = next(self.hands)
            return post(
                j, x, self.part((*words, x), hands, below), self.part(words, (*hands, j), below)
            )
        made = told if sort == "tell" else held
        return made(x, self.simple(words), self.part((*words, x), hands, below))
