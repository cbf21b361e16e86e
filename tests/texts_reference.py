"""Second ways to write books and turned books, and to read books, from the document's points 34 and 35.

The reader takes a text apart by a pattern, reads it with blanks left out, and
then asks whether what it read is written just so. It shares nothing with the
program.
"""

import re

KEPT = ("let", "be", "in", "tell", "if", "then", "else", "home")


def write(term):
    sort = term[0]
    if sort == "number":
        return str(term[1])
    if sort == "name":
        return term[1]
    if sort == "plus":
        return "(%s + %s)" % (write(term[1]), write(term[2]))
    if sort == "less":
        return "(%s - %s)" % (write(term[1]), write(term[2]))
    if sort == "tell":
        return "tell %s" % write(term[1])
    if sort == "let":
        return "let %s be %s in %s" % (term[1], write(term[2]), write(term[3]))
    if sort == "if":
        return "if %s then %s else %s" % tuple(write(one) for one in term[1:])
    return "%s(%s)" % (term[1], ", ".join(write(one) for one in term[2]))


def write_part(part):
    sort = part[0]
    if sort == "give":
        return "give %s to %s" % (write(part[2]), part[1])
    if sort == "ask":
        return "ask %s to %s" % (write(part[:3]), part[3])
    if sort == "tell":
        return "tell %s as %s; %s" % (write(part[2]), part[1], write_part(part[3]))
    if sort == "let":
        return "let %s be %s; %s" % (part[1], write(part[2]), write_part(part[3]))
    if sort == "if":
        return "if %s {%s} else {%s}" % (write(part[1]), write_part(part[2]), write_part(part[3]))
    return "post %s %s {%s} %s" % (part[1], part[2], write_part(part[3]), write_part(part[4]))


def write_all(errands, write_body):
    return "\n".join(" ".join((name,) + names + ("=", write_body(body))) for name, names, body in errands)


class NoReading(Exception):
    pass


class Reader:
    def __init__(self, text):
        self.bits = re.findall(r"[a-z]+|[0-9]+|[^a-z0-9 ]", text)

    def next(self, *due):
        if not self.bits or (due and self.bits[0] not in due):
            raise NoReading
        return self.bits.pop(0)

    def word(self):
        word = self.next()
        if not re.fullmatch("[a-z]{1,8}", word) or word in KEPT:
            raise NoReading
        return word

    def term(self, around=0):
        if around > 100 or not self.bits:
            raise NoReading
        bit, below = self.bits[0], around + 1
        if bit.isdigit():
            self.next()
            if int(bit) > 999:
                raise NoReading
            return ("number", int(bit))
        if bit == "(":
            self.next()
            first = self.term(below)
            sort = {"+": "plus", "-": "less"}[self.next("+", "-")]
            second = self.term(below)
            self.next(")")
            return (sort, first, second)
        if bit == "tell":
            self.next()
            return ("tell", self.term(below))
        if bit == "let":
            self.next()
            x = self.word()
            self.next("be")
            first = self.term(below)
            self.next("in")
            return ("let", x, first, self.term(below))
        if bit == "if":
            self.next()
            first = self.term(below)
            self.next("then")
            second = self.term(below)
            self.next("else")
            return ("if", first, second, self.term(below))
        word = self.word()
        if self.bits[:1] != ["("]:
            return ("name", word)
        self.next()
        terms = []
        while self.bits[:1] != [")"]:
            if terms:
                self.next(",")
            terms.append(self.term(below))
        self.next(")")
        if len(terms) > 4:
            raise NoReading
        return ("ask", word, tuple(terms))

    def errand(self):
        words = [self.word()]
        while self.bits[:1] != ["="]:
            words.append(self.word())
        self.next("=")
        body = self.term()
        if self.bits or len(words) > 5:
            raise NoReading
        return (words[0], tuple(words[1:]), body)


def read_reference(text):
    """What is made as a book is, or None."""
    lines = text.split("\n")
    try:
        book = tuple(Reader(line).errand() for line in lines)
    except NoReading:
        return None
    return book if len(lines) <= 6 and write_all(book, write) == text else None
