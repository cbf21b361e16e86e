"""New words, for what is put into an errand."""

from whatnext.anew import word_of


class NewWords:
    """Tells words, each once, and none of those that are taken."""

    def __init__(self, taken):
        self.taken = {word: True for word in taken}
        self.many = 0

    def one_more(self):
        word = word_of(self.many)
        self.many += 1
        while word in self.taken:
            word = word_of(self.many)
            self.many += 1
        return word
