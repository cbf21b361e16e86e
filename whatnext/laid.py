"""Turned books laid: what comes next stands at the asks."""

from whatnext.anew import renamed_term
from whatnext.books import parts_of
from whatnext.errors import TooGreat
from whatnext.newwords import NewWords
from whatnext.turnedbooks import HOME, posts_met, rest_of, terms_in, words_met
from whatnext.walks import met, remade

MOST_LAID = 200


def is_laid(turned):
    return all([is_body_laid(body) for name, names, body in turned])


def is_body_laid(body):
    waiting = [(body, HOME)]
    while waiting:
        part, due = waiting.pop()
        if not is_part_laid(part, due):
            return False
        if part[0] == "post":
            waiting.append((part[3], HOME))
            waiting.append((part[4], part[1]))
        else:
            waiting.extend([(one, HOME) for one in rest_of(part)])
    return True


def is_part_laid(part, due):
    """Whether the part is as in a laid book, due being home or, in U of a post, its word."""
    if part[0] == "give":
        return part[1] == HOME
    if part[0] == "ask":
        return part[3] == due
    return part[0] != "post" or part[4][0] == "ask"


def laid(turned):
    return tuple([(name, names, laid_body(name, names, body)) for name, names, body in turned])


def laid_body(name, names, body):
    laying = Laying(name, NewWords([*words_met(names, body), *posts_met(body)]))
    laying.go(body, {x: x for x in names})
    return laying.got.pop()


class LeftOut:
    """A post that is left out, with the words and hand-ons around it."""

    def __init__(self, post, words, hands):
        self.post = post
        self.words = words
        self.hands = hands


class Laying:
    """An errand's body on its way to being laid.

    Parts are made as they stand in what is told, each but once, so that too great
    a one is seen early, however much greater it would become. got holds parts
    that are made and not yet used.
    """

    def __init__(self, name, new_words):
        self.name = name
        self.new_words = new_words
        self.parts_made = 0
        self.got = []

    def go(self, body, words):
        jobs = [("lay", body, words, {HOME: None})]
        while jobs:
            job = jobs.pop()
            if job[0] == "lay":
                jobs.extend(self.jobs_to_lay(job[1], job[2], job[3])[::-1])
            else:
                self.finish(job)

    def jobs_to_lay(self, part, words, hands):
        """What is to be done, words telling the new words, hands the posts left out, home being none."""
        while part[0] == "post":
            hands = {**hands, part[1]: LeftOut(part, words, hands)}
            part = part[4]
        terms = self.terms_anew(part, words)
        head = part[0]
        if head == "give":
            return self.jobs_to_give(terms[0], hands[part[1]])
        if head == "ask":
            return self.jobs_to_ask(part[1], terms, hands[part[3]])
        if head == "if":
            return [("lay", part[2], words, hands), ("lay", part[3], words, hands), (head, terms[0])]
        x = self.new_words.one_more()
        return [("lay", part[3], {**words, part[1]: x}, hands), (head, x, terms[0])]

    def jobs_to_give(self, term, left_out):
        if left_out is None:
            return [("known", ("give", HOME, term))]
        x = self.new_words.one_more()
        return [self.job_of_copy(left_out, x), ("let", x, term)]

    def jobs_to_ask(self, f, terms, left_out):
        if left_out is None:
            return [("known", ("ask", f, terms, HOME))]
        self.add_parts(1)
        x = self.new_words.one_more()
        j = self.new_words.one_more()
        return [self.job_of_copy(left_out, x), ("post", j, x, ("ask", f, terms, j))]

    def job_of_copy(self, left_out, x):
        """T of the post once more, its word being x here."""
        post = left_out.post
        return "lay", post[3], {**left_out.words, post[2]: x}, left_out.hands

    def terms_anew(self, part, words):
        """The terms right in a part by their new words, counted with the part."""
        told = []
        self.add_parts(1)
        for term in terms_in(part):
            self.add_parts(len(met(term, parts_of)))
            told.append(remade(term, parts_of, lambda one, own: renamed_term(one, own, words)))
        return tuple(told)

    def add_parts(self, many):
        self.parts_made += many
        if self.parts_made > MOST_LAID:
            raise TooGreat(self.name)

    def finish(self, job):
        if job[0] == "known":
            self.got.append(job[1])
        elif job[0] == "post":
            head, j, x, asked = job
            self.got.append((head, j, x, self.got.pop(), asked))
        elif job[0] == "if":
            second = self.got.pop()
            first = self.got.pop()
            self.got.append((*job, first, second))
        else:
            self.got.append((*job, self.got.pop()))
