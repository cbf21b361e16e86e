"""A second way to run a book, written from the document and for small runs only.

It finds by places which terms are led on and which are last, and it calls
itself for each term, so that it shares nothing with the program.
"""

KINDS_WITH_TWO = ("plus", "less")


def parts(term):
    return {
        "number": lambda: [],
        "name": lambda: [],
        "plus": lambda: [term[1], term[2]],
        "less": lambda: [term[1], term[2]],
        "tell": lambda: [term[1]],
        "let": lambda: [term[2], term[3]],
        "if": lambda: [term[1], term[2], term[3]],
        "ask": lambda: list(term[2]),
    }[term[0]]()


def led_and_last(name, body):
    led, last = {(name,)}, {(name,)}

    def walk(place, term):
        for k, part in enumerate(parts(term)):
            at = place + (k,)
            if term[0] == "let" and k == 1:
                if place in led:
                    led.add(at)
                if place in last:
                    last.add(at)
            if term[0] == "if" and k > 0:
                led.add(at)
                if place in last:
                    last.add(at)
            walk(at, part)

    walk((name,), body)
    return led, last


class Long(Exception):
    pass


class Reference:
    def __init__(self, book, most):
        self.bodies = {name: (names, body) for name, names, body in book}
        self.kinds = {name: led_and_last(name, body) for name, names, body in book}
        self.most, self.asked = most, 0
        self.trail, self.deepest, self.left = [], 0, 0
        self.not_last = 0

    def ask(self, f, numbers, waiting, is_last=True):
        if self.asked >= self.most:
            raise Long
        self.asked += 1
        self.not_last += not is_last
        self.trail.append(("ask", f, tuple(numbers)))
        self.deepest = max(self.deepest, waiting)
        names, body = self.bodies[f]
        return self.value((f,), body, dict(zip(names, numbers)), waiting)

    def value(self, place, term, words, waiting):
        led, last = self.kinds[place[0]]
        sort = term[0]
        if sort == "number":
            return term[1]
        if sort == "name":
            return words[term[1]]
        if sort == "let":
            n = self.value(place + (0,), term[2], words, waiting)
            return self.value(place + (1,), term[3], {**words, term[1]: n}, waiting)
        if sort == "if":
            n = self.value(place + (0,), term[1], words, waiting)
            self.left += place not in led
            k = 1 if n != 0 else 2
            return self.value(place + (k,), term[k + 1], words, waiting)
        values = [self.value(place + (k,), part, words, waiting) for k, part in enumerate(parts(term))]
        if sort == "tell":
            self.trail.append(("tell", values[0]))
            return values[0]
        if sort in KINDS_WITH_TWO:
            return (values[0] + (values[1] if sort == "plus" else -values[1])) % 1000
        self.left += place not in led
        is_last = place in last
        return self.ask(term[1], values, waiting + (not is_last), is_last)


def run_reference(book, f, numbers, most):
    return run_and_count(book, f, numbers, most)[0]


def run_and_count(book, f, numbers, most):
    """The run, and how many asks that aren't last were done in it."""
    running = Reference(book, most)
    try:
        end = ("done", running.ask(f, numbers, 0))
    except Long:
        end = ("long",)
    return (running.trail, end, running.deepest, running.left), running.not_last
