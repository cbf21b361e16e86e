"""The numbers of simple terms, and sums and differences."""

from whatnext.books import parts_of
from whatnext.walks import remade

NUMBERS = 1000


def combined(head, first, second):
    """The number of a plus or less, by its rest."""
    if head == "plus":
        return (first + second) % NUMBERS
    return (first - second) % NUMBERS


def number_of(term, words):
    """The number of a simple term, words being the numbers of the words around it."""
    return remade(term, parts_of, lambda part, told: number_by_parts(part, told, words))


def number_by_parts(term, told, words):
    if term[0] == "number":
        return term[1]
    if term[0] == "name":
        return words[term[1]]
    return combined(term[0], told[0], told[1])
