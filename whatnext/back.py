"""Straight turned books, and turned books turned back."""

from whatnext.errors import Bent
from whatnext.turnedbooks import HOME, hand_of, rest_of, terms_in, turned_parts
from whatnext.turning import turn_book
from whatnext.walks import met, remade


def bent_at(turned):
    """The least place of a give or ask that goes to another hand-on than is due, or None."""
    for name, names, body in turned:
        place = bent_in(name, body)
        if place is not None:
            return place
    return None


def bent_in(name, body):
    waiting = [((name,), body, HOME)]
    while waiting:
        place, part, due = waiting.pop()
        if hand_of(part) not in (None, due):
            return place
        first = len(terms_in(part))
        rest = rest_of(part)
        # The last one put here is taken first, so what stands first goes in last.
        for k in reversed(range(len(rest))):
            # U of a post is its second turned part.
            is_due_own = part[0] == "post" and k == 1
            waiting.append(((*place, first + k), rest[k], part[1] if is_due_own else due))
    return None


def back(turned):
    place = bent_at(turned)
    if place is not None:
        raise Bent(place)
    return tuple([(name, names, remade(body, turned_parts, part_back)) for name, names, body in turned])


def part_back(part, own):
    """The term that a part is turned back, by those that its own parts are."""
    head = part[0]
    if head == "give":
        return own[0]
    if head == "ask":
        return head, part[1], own
    if head == "tell":
        return "let", part[1], (head, own[0]), own[1]
    if head == "let":
        return head, part[1], *own
    if head == "post":
        return "let", part[2], own[1], own[0]
    if head == "if":
        return head, *own
    return part


def is_neat(turned):
    """Whether it is straight and U of each post is an ask or an if."""
    if bent_at(turned) is not None:
        return False
    for name, names, body in turned:
        posts = [part for part in met(body, rest_of) if part[0] == "post"]
        if not all([post[4][0] in ("ask", "if") for post in posts]):
            return False
    return True


def named_book(book):
    return back(turn_book(book))
