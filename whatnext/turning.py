"""Books turned: each body is done to the hand-on that is due.

Nothing here calls itself, as terms may lie deep within one another. What is to
be done with a term is told as jobs, in the order in which they are due.
"""

from whatnext.books import words_in
from whatnext.newwords import NewWords
from whatnext.turnedbooks import HOME
from whatnext.walks import last_taken


def turn_book(book):
    return tuple([(name, names, turned_body(names, body)) for name, names, body in book])


def turned_body(names, body):
    turning = Turning(NewWords(words_in(names, body)))
    turning.go([("row",), ("done", body, HOME)])
    return turning.got.pop()


def jobs_to_end(term, j):
    """Leave the give, ask or if that does this term, no let, to j."""
    if term[0] == "ask":
        return [*[("simple", part) for part in term[2]], ("ask", term[1], len(term[2]), j)]
    if term[0] == "if":
        sides = [("row",), ("done", term[2], j), ("row",), ("done", term[3], j)]
        return [("simple", term[1]), *sides, ("if",)]
    # Made simple, a tell is put under a new word, so that its name is given.
    return [("simple", term), ("give", j)]


def put_ahead(leads, part):
    """The part, with the leads ahead of it."""
    for lead in reversed(leads):
        if lead[0] == "post":
            head, j, x, inner = lead
            part = (head, j, x, part, inner)
        else:
            part = (*lead, part)
    return part


class Turning:
    """A body on its way to being turned.

    rows holds, for each part that is being made, what goes ahead in it, called
    its leads. got holds what is made and not yet used: simple terms and parts.
    """

    def __init__(self, new_words):
        self.new_words = new_words
        self.jobs = []
        self.rows = []
        self.got = []

    def go(self, jobs):
        self.jobs.extend(jobs[::-1])
        while self.jobs:
            job = self.jobs.pop()
            if job[0] in ("done", "put", "simple"):
                self.jobs.extend(self.jobs_of(job)[::-1])
            else:
                self.finish(job)

    def jobs_of(self, job):
        if job[0] == "done":
            return self.jobs_done(job[1], job[2])
        if job[0] == "put":
            return self.jobs_put(job[1], job[2])
        return self.jobs_simple(job[1])

    def jobs_done(self, term, j):
        """The term done to j, which ends the row."""
        if term[0] == "let":
            return [("put", term[2], term[1]), ("done", term[3], j)]
        return [*jobs_to_end(term, j), ("close",)]

    def jobs_put(self, term, x):
        """The term put under x, ahead of the rest of the row."""
        if term[0] == "let":
            return [("put", term[2], term[1]), ("put", term[3], x)]
        if term[0] in ("ask", "if"):
            j = self.new_words.one_more()
            return [*jobs_to_end(term, j), ("post", j, x)]
        if term[0] == "tell":
            return [("simple", term[1]), ("tell", x)]
        return [("simple", term), ("let", x)]

    def jobs_simple(self, term):
        """The term made simple, and left."""
        if term[0] in ("number", "name"):
            return [("known", term)]
        if term[0] in ("plus", "less"):
            return [("simple", term[1]), ("simple", term[2]), (term[0],)]
        if term[0] == "let":
            return [("put", term[2], term[1]), ("simple", term[3])]
        x = self.new_words.one_more()
        return [("put", term, x), ("known", ("name", x))]

    def finish(self, job):
        head = job[0]
        if head == "row":
            self.rows.append([])
        elif head == "close":
            self.got.append(put_ahead(self.rows.pop(), self.got.pop()))
        elif head in ("let", "tell", "post"):
            self.rows[-1].append((*job, self.got.pop()))
        elif head == "known":
            self.got.append(job[1])
        elif head == "ask":
            self.got.append((head, job[1], last_taken(self.got, job[2]), job[3]))
        elif head == "give":
            self.got.append((*job, self.got.pop()))
        elif head == "if":
            self.got.append((head, *last_taken(self.got, 3)))
        else:
            self.got.append((head, *last_taken(self.got, 2)))
