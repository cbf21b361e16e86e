"""Runs of turned books: nobody waits, but each ask is handed what comes next."""

from whatnext.needs import need_asking, need_most
from whatnext.passing import passed
from whatnext.runs import MOST_ASKS
from whatnext.turnedbooks import HOME


def run_turned(turned, f, numbers, most):
    """Told are the trail, the end, the greatest height at an ask, and how many hand-ons were made."""
    need_asking(turned, f, numbers)
    need_most(most, 0, MOST_ASKS)
    running = TurnedRunning(turned, most)
    running.ask(f, numbers, HandOn(None, {}, {}, 0))
    running.go()
    return running.trail, running.end, running.deepest, running.made


class HandOn:
    """What comes next: a post, and the words and hand-ons around it. The end has no post."""

    def __init__(self, post, words, hands, height):
        self.post = post
        self.words = words
        self.hands = hands
        self.height = height


class TurnedRunning:
    """A run of a turned book on its way: the part that is due, its words and hand-ons."""

    def __init__(self, turned, most):
        self.errands = {name: (names, body) for name, names, body in turned}
        self.most = most
        self.trail = []
        self.end = None
        self.deepest = 0
        self.made = 0
        self.asked = 0
        self.part = None
        self.words = {}
        self.hands = {}

    def go(self):
        while self.end is None:
            self.pass_part()

    def ask(self, f, numbers, home):
        if self.asked == self.most:
            self.end = ("long",)
            return
        self.asked += 1
        self.trail.append(("ask", f, numbers))
        self.deepest = max(self.deepest, home.height)
        names, body = self.errands[f]
        self.part = body
        self.words = dict(zip(names, numbers))
        self.hands = {HOME: home}

    def pass_part(self):
        told, stand = passed(
            self.part, self.words, self.hands, lambda post, words, hands: self.make(post, words, hands)
        )
        self.trail.extend([("tell", number) for number in told])
        if stand[0] == "give":
            self.give(stand[2], stand[1])
        else:
            self.ask(stand[1], stand[2], stand[3])

    def give(self, hand, number):
        if hand.post is None:
            self.end = ("done", number)
            return
        self.part = hand.post[3]
        self.words = {**hand.words, hand.post[2]: number}
        self.hands = hand.hands

    def make(self, post, words, hands):
        self.made += 1
        return HandOn(post, words, hands, hands[HOME].height + 1)
