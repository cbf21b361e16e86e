"""Runs: an errand asked, its trail, its end, who waits and what is left."""

from whatnext.books import first_parts
from whatnext.needs import need_asking, need_most
from whatnext.simple import combined
from whatnext.walks import last_taken

MOST_ASKS = 3000


def run(book, f, numbers, most):
    """Told are the trail, the end, how many wait at most and how many are left."""
    need_asking(book, f, numbers)
    need_most(most, 0, MOST_ASKS)
    running = Running(book, most)
    running.ask(f, numbers, 0)
    running.go()
    return running.trail, running.end, running.deepest, running.left


class Asking:
    """One asking of an errand: the numbers of its words, and how many wait."""

    def __init__(self, words, waiting):
        self.words = words
        self.waiting = waiting


class Step:
    """A term to be begun, or to be finished when its first parts are done."""

    def __init__(self, term, asking, led, last):
        self.term = term
        self.asking = asking
        self.led = led
        self.last = last
        self.begun = False


class Running:
    """A run on its way.

    The steps still due and the numbers still to be used are kept in lists, as
    asks may wait for one another deeper than functions may call themselves.
    """

    def __init__(self, book, most):
        self.errands = {name: (names, body) for name, names, body in book}
        self.most = most
        self.trail = []
        self.end = None
        self.deepest = 0
        self.left = 0
        self.asked = 0
        self.steps = []
        self.got = []

    def go(self):
        while self.end is None:
            if not self.steps:
                self.end = ("done", self.got.pop())
            elif self.steps[-1].begun:
                self.finish(self.steps.pop())
            else:
                self.begin(self.steps[-1])

    def ask(self, f, numbers, waiting):
        if self.asked == self.most:
            self.end = ("long",)
            return
        self.asked += 1
        self.trail.append(("ask", f, numbers))
        self.deepest = max(self.deepest, waiting)
        names, body = self.errands[f]
        asking = Asking(dict(zip(names, numbers)), waiting)
        self.steps.append(Step(body, asking, True, True))

    def begin(self, step):
        step.begun = True
        for part in reversed(first_parts(step.term)):
            self.steps.append(Step(part, step.asking, False, False))

    def finish(self, step):
        head = step.term[0]
        if head == "number":
            self.got.append(step.term[1])
        elif head == "name":
            self.got.append(step.asking.words[step.term[1]])
        elif head in ("plus", "less"):
            self.combine(head)
        elif head == "tell":
            self.trail.append(("tell", self.got[-1]))
        elif head == "let":
            self.let(step)
        elif head == "if":
            self.choose(step)
        else:
            self.ask_from(step)

    def combine(self, head):
        second = self.got.pop()
        first = self.got.pop()
        self.got.append(combined(head, first, second))

    def let(self, step):
        # A word is given once in an errand, so nothing is put out of its place.
        step.asking.words[step.term[1]] = self.got.pop()
        self.steps.append(Step(step.term[3], step.asking, step.led, step.last))

    def choose(self, step):
        if not step.led:
            self.left += 1
        chosen = step.term[3] if self.got.pop() == 0 else step.term[2]
        self.steps.append(Step(chosen, step.asking, True, step.last))

    def ask_from(self, step):
        if not step.led:
            self.left += 1
        numbers = last_taken(self.got, len(step.term[2]))
        waiting = step.asking.waiting if step.last else step.asking.waiting + 1
        self.ask(step.term[1], numbers, waiting)
