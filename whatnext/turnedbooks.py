"""Turned books: errands that hand on what comes next, and the parts of their bodies."""

from whatnext.books import (
    SIMPLE_HEADS,
    are_asks_right,
    are_made_as_errands,
    are_unlike,
    has_head,
    is_great,
    is_made_as_term,
    is_short_tuple,
    is_simple,
    is_word,
    many_names,
    parts_of,
)
from whatnext.walks import met, placed

HOME = "home"
MOST_PARTS = 120
MOST_AROUND_PARTS = 40

# How many items a turned part has, by its first one, which is counted.
PART_ITEMS = {"give": 3, "ask": 4, "tell": 4, "let": 4, "if": 4, "post": 5}


def terms_in(part):
    """The simple terms right in a turned part, in order."""
    if part[0] == "ask":
        return part[2]
    if part[0] == "if":
        return part[1:2]
    if part[0] == "post":
        return ()
    return part[2:3]


def rest_of(part):
    """The turned parts right in a turned part, in order."""
    if part[0] == "if":
        return part[2:]
    if part[0] in ("give", "ask"):
        return ()
    return part[3:]


def with_rest(part, rest):
    """The part with these turned parts right in it, which always stand last."""
    return part[: len(part) - len(rest)] + rest


def turned_parts(part):
    """The parts right in this one, a turned part or a simple term, in order."""
    if part[0] in SIMPLE_HEADS:
        return parts_of(part)
    return terms_in(part) + rest_of(part)


def words_met(names, body):
    """An errand's names, then the words x of its body as they are met."""
    words = list(names)
    for part in met(body, rest_of):
        if part[0] in ("tell", "let"):
            words.append(part[1])
        elif part[0] == "post":
            words.append(part[2])
    return words


def posts_met(body):
    """The words j of the posts of a body as they are met."""
    return [part[1] for part in met(body, rest_of) if part[0] == "post"]


def is_turned(thing):
    """Of anything: whether it is a turned book."""
    if not are_made_as_errands(thing, is_made_as_part):
        return False
    many = many_names(thing)
    if len(many) != len(thing):
        return False
    for name, names, body in thing:
        if not are_words_right(names, body) or not are_asks_right(met(body, rest_of), many):
            return False
        if is_great(placed(name, body, turned_parts), MOST_PARTS, MOST_AROUND_PARTS):
            return False
    return True


def is_made_as_part(thing):
    waiting = [thing]
    while waiting:
        one = waiting.pop()
        if not has_part_items_right(one):
            return False
        if not all([is_made_as_term(term) and is_simple(term) for term in terms_in(one)]):
            return False
        waiting.extend(rest_of(one))
    return True


def has_part_items_right(thing):
    """Whether all is made as in a turned part but, perhaps, what its parts are."""
    if not has_head(thing) or PART_ITEMS.get(thing[0]) != len(thing):
        return False
    head = thing[0]
    if head == "give":
        return is_hand(thing[1])
    if head == "ask":
        return is_word(thing[1]) and is_short_tuple(thing[2]) and is_hand(thing[3])
    if head == "post":
        return is_word(thing[1]) and is_word(thing[2])
    return head == "if" or is_word(thing[1])


def is_hand(thing):
    """Whether it is a word that a hand-on may have."""
    return thing == HOME or is_word(thing)


def are_words_right(names, body):
    """Whether words and posts' words are unlike, and each stands where it is around."""
    if not are_unlike(words_met(names, body)) or not are_unlike(posts_met(body)):
        return False
    waiting = [(names, (HOME,), body)]
    while waiting:
        words, hands, part = waiting.pop()
        if not are_own_around(part, words, hands):
            return False
        head = part[0]
        if head == "post":
            waiting.append(((*words, part[2]), hands, part[3]))
            waiting.append((words, (*hands, part[1]), part[4]))
        elif head in ("tell", "let"):
            waiting.append(((*words, part[1]), hands, part[3]))
        else:
            waiting.extend([(words, hands, one) for one in rest_of(part)])
    return True


def are_own_around(part, words, hands):
    """Whether the names in the part's own terms, and its hand-on, are around."""
    for term in terms_in(part):
        if not all([one[1] in words for one in met(term, parts_of) if one[0] == "name"]):
            return False
    hand = hand_of(part)
    return hand is None or hand in hands


def hand_of(part):
    """The word of the hand-on that a give gives to or an ask hands on, None of other parts."""
    if part[0] == "give":
        return part[1]
    if part[0] == "ask":
        return part[3]
    return None
