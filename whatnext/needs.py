"""What an errand that is asked needs, of a book or of a turned one."""

from whatnext.books import errand_named, is_whole
from whatnext.errors import NoAsking, NoMost


def need_errand(book, f):
    """Refuse with NoAsking where no errand is named f."""
    if errand_named(book, f) is None:
        raise NoAsking("no errand has this name")


def need_asking(book, f, numbers):
    """Refuse with NoAsking where f can't be asked with these numbers."""
    need_errand(book, f)
    errand = errand_named(book, f)
    if not isinstance(numbers, tuple) or not all([is_whole(number) for number in numbers]):
        raise NoAsking("numbers are a tuple of whole numbers")
    if len(numbers) != len(errand[1]):
        raise NoAsking("the errand has another number of names")


def need_most(most, least, greatest):
    """Refuse with NoMost a most that isn't from least to greatest."""
    if not is_whole(most) or not least <= most <= greatest:
        raise NoMost("the most is beyond its bounds")
