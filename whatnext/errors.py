"""The refusals of whatnext."""


class NextError(ValueError):
    """Any refusal of whatnext."""


class NoBook(NextError):
    """The thing is no book; fault is the word that tells why."""

    def __init__(self, fault):
        self.fault = fault


class Bent(NextError):
    """The turned book isn't straight; place is the least one that is bent."""

    def __init__(self, place):
        self.place = place


class TooGreat(NextError):
    """Laid, an errand would be too great; name is the first such errand's."""

    def __init__(self, name):
        self.name = name


class NoCarry(NextError):
    """The errand can't be carried; place is the least ask that hinders it."""

    def __init__(self, place):
        self.place = place


class NoAsking(NextError):
    """No errand has this name, or it has another number of names."""


class NoMost(NextError):
    """The most is beyond its bounds."""


class NoText(NextError):
    """The text writes nothing that is made as a book is."""


class NoRow(NextError):
    """The row is none that the desk knows."""


class NoStand(NextError):
    """There is no book on the desk yet."""
