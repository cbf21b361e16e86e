"""Which terms of a book are last, and which are led on."""

from whatnext.books import parts_of


def last_places(book):
    return [place for place, is_led, is_last in marked_places(book) if is_last]


def led_places(book):
    return [place for place, is_led, is_last in marked_places(book) if is_led]


def marked_places(book):
    """Each place of the book, whether its term is led on, and whether it is last."""
    marked = []
    for name, names, body in book:
        waiting = [((name,), body, True, True)]
        while waiting:
            place, term, is_led, is_last = waiting.pop()
            marked.append((place, is_led, is_last))
            parts = parts_of(term)
            # The last one put here is taken first, so the first part goes in last.
            for k in reversed(range(len(parts))):
                is_part_led, is_part_last = marks_of_part(term[0], k, is_led, is_last)
                waiting.append(((*place, k), parts[k], is_part_led, is_part_last))
    return marked


def marks_of_part(head, k, is_led, is_last):
    """Whether part k of such a term is led on, and whether it is last, by what the term is."""
    if k > 0 and head == "let":
        return is_led, is_last
    if k > 0 and head == "if":
        return True, is_last
    return False, False
