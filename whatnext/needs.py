"""What a run of an errand needs, of a book or of a turned one."""

from whatnext.books import errand_named, is_whole
from whatnext.errors import NoAsking, NoMost


def need_asking(book, f, numbers):
    """Refuse with NoAsking where f can't be asked with these numbers."""
    errand = errand_named(book, f)
    if errand is None:
        raise NoAsking("no errand has this name")
    if not isinstance(numbers, tuple) or not all([is_whole(number) for number in numbers]):
        raise NoAsking("numbers are a tuple of whole numbers")
    if len(numbers) != len(errand[1]):
        raise NoAsking("the errand has another number of names")


def need_most(most, least, greatest):
    """Refuse with NoMost a most that isn't from least to greatest."""
    if not is_whole(most) or not least <= most <= greatest:
        raise NoMost("the most is beyond its bounds")
