"""Second ways to do what is done to turned books, written from the document.

They call themselves for each part and are for small things only. They share
nothing with the program.
"""

from tests.reference import Long

LETTERS = set("abcdefghijklmnopqrstuvwxyz")
KEPT = ("let", "be", "in", "tell", "if", "then", "else", "home")


def number(term, words):
    if term[0] == "number":
        return term[1]
    if term[0] == "name":
        return words[term[1]]
    first, second = number(term[1], words), number(term[2], words)
    return (first + second if term[0] == "plus" else first - second) % 1000


class TurnedReference:
    """What is given to a hand-on calls its function; so runs must be short."""

    def __init__(self, turned, most):
        self.bodies = {name: (names, body) for name, names, body in turned}
        self.most, self.asked = most, 0
        self.trail, self.deepest, self.made = [], 0, 0

    def ask(self, f, numbers, home):
        if self.asked >= self.most:
            raise Long
        self.asked += 1
        self.trail.append(("ask", f, numbers))
        self.deepest = max(self.deepest, home[0])
        names, body = self.bodies[f]
        return self.do(body, dict(zip(names, numbers)), {"home": home})

    def do(self, part, words, hands):
        sort = part[0]
        if sort == "give":
            return hands[part[1]][1](number(part[2], words))
        if sort == "ask":
            return self.ask(part[1], tuple(number(s, words) for s in part[2]), hands[part[3]])
        if sort == "if":
            return self.do(part[2] if number(part[1], words) else part[3], words, hands)
        if sort == "post":
            self.made += 1
            j, x, t, u = part[1:]

            hand = (hands["home"][0] + 1, lambda n: self.do(t, {**words, x: n}, hands))
            return self.do(u, words, {**hands, j: hand})
        n = number(part[2], words)
        if sort == "tell":
            self.trail.append(("tell", n))
        return self.do(part[3], {**words, part[1]: n}, hands)


def run_turned_reference(turned, f, numbers, most):
    running = TurnedReference(turned, most)
    try:
        end = ("done", running.ask(f, numbers, (0, lambda n: n)))
    except Long:
        end = ("long",)
    return running.trail, end, running.deepest, running.made


def is_word(thing):
    return isinstance(thing, str) and 0 < len(thing) < 9 and thing not in KEPT and set(thing) <= LETTERS


class NotTurned(Exception):
    pass


def need(test):
    if not test:
        raise NotTurned


class Checker:
    """Walks a thing as a turned book; whatever isn't so ends it."""

    def book(self, thing):
        need(isinstance(thing, tuple) and 1 <= len(thing) <= 6)
        for errand in thing:
            need(isinstance(errand, tuple) and len(errand) == 3)
            need(is_word(errand[0]))
            need(isinstance(errand[1], tuple) and len(errand[1]) <= 4)
            need(all(is_word(word) for word in errand[1]))
        self.many = {errand[0]: len(errand[1]) for errand in thing}
        need(len(self.many) == len(thing))
        for name, names, body in thing:
            self.xs, self.js, self.count = list(names), [], 0
            self.part(body, set(names), {"home"}, 0)
            need(len(set(self.xs)) == len(self.xs) and len(set(self.js)) == len(self.js))
            need(self.count <= 120)

    def counted(self, thing, around):
        self.count += 1
        need(around <= 40)
        need(isinstance(thing, tuple) and len(thing) > 0)

    def simple(self, thing, words, around):
        self.counted(thing, around)
        if thing[0] == "number":
            need(len(thing) == 2 and isinstance(thing[1], int) and not isinstance(thing[1], bool))
            need(0 <= thing[1] < 1000)
        elif thing[0] == "name":
            need(len(thing) == 2 and is_word(thing[1]) and thing[1] in words)
        else:
            need(thing[0] in ("plus", "less") and len(thing) == 3)
            for part in thing[1:]:
                self.simple(part, words, around + 1)

    def part(self, thing, words, hands, around):
        self.counted(thing, around)
        sort, below = thing[0], around + 1
        need(sort in ("give", "ask", "tell", "let", "if", "post"))
        need(len(thing) == {"give": 3, "post": 5}.get(sort, 4))
        if sort == "give":
            need(isinstance(thing[1], str) and thing[1] in hands)
            self.simple(thing[2], words, below)
        elif sort == "ask":
            need(is_word(thing[1]) and isinstance(thing[2], tuple) and self.many.get(thing[1]) == len(thing[2]))
            need(isinstance(thing[3], str) and thing[3] in hands)
            for term in thing[2]:
                self.simple(term, words, below)
        elif sort == "if":
            self.simple(thing[1], words, below)
            self.part(thing[2], words, hands, below)
            self.part(thing[3], words, hands, below)
        elif sort == "post":
            need(is_word(thing[1]) and is_word(thing[2]))
            self.js.append(thing[1])
            self.xs.append(thing[2])
            self.part(thing[3], words | {thing[2]}, hands, below)
            self.part(thing[4], words, hands | {thing[1]}, below)
        else:
            need(is_word(thing[1]))
            self.xs.append(thing[1])
            self.simple(thing[2], words, below)
            self.part(thing[3], words | {thing[1]}, hands, below)


def is_turned_reference(thing):
    try:
        Checker().book(thing)
    except NotTurned:
        return False
    return True
