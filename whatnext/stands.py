"""Stands: all that a run of a turned book needs, told as plain things at each give and ask."""

from whatnext.books import has_head, is_number, is_whole, many_names, parts_of
from whatnext.passing import passed
from whatnext.turnedbooks import HOME, hand_of, posts_met, rest_of, terms_in, turned_parts, words_met
from whatnext.walks import met, placed

MOST_HANDS_WITHIN = 60


def cards(turned):
    return [card_of(place, post) for place, post in posts_placed(turned)]


def posts_placed(turned):
    """The posts by their numbers, each behind its place."""
    found = []
    for name, names, body in turned:
        found.extend([(place, part) for place, part in placed(name, body, turned_parts) if part[0] == "post"])
    return found


def card_of(place, post):
    head, j, x, then, inner = post
    return place, x, others(words_named(then), words_met((x,), then)), others(hands_named(then), posts_met(then))


def others(words, own):
    """The words that are none of own, sorted, each once."""
    return tuple(sorted(set([word for word in words if word not in own])))


def words_named(part):
    """The words of the names in a turned part."""
    terms = [term for one in met(part, rest_of) for term in terms_in(one)]
    return [one[1] for term in terms for one in met(term, parts_of) if one[0] == "name"]


def hands_named(part):
    """The words of the hand-ons to which is given and asked in a turned part."""
    return [hand_of(one) for one in met(part, rest_of) if hand_of(one) is not None]


def is_stand(turned, thing):
    """Of anything: whether it is a stand."""
    if not has_head(thing):
        return False
    if thing[0] == "give":
        return len(thing) == 3 and is_number(thing[1]) and is_hand_on(turned, thing[2])
    if thing[0] != "ask" or len(thing) != 4 or not isinstance(thing[1], str):
        return False
    return are_numbers(thing[2], many_names(turned).get(thing[1])) and is_hand_on(turned, thing[3])


def are_numbers(thing, many):
    """Whether it is a tuple of so many numbers."""
    return isinstance(thing, tuple) and len(thing) == many and all([is_number(one) for one in thing])


def is_hand_on(turned, thing):
    """Of anything: whether it is a hand-on, not too many within one another."""
    told = cards(turned)
    waiting = [(thing, 0)]
    while waiting:
        hand, around = waiting.pop()
        if not isinstance(hand, tuple):
            return False
        if len(hand) > 0:
            if around == MOST_HANDS_WITHIN or not has_items_of_a_card(hand, told):
                return False
            waiting.extend([(one, around + 1) for one in hand[2]])
    return True


def has_items_of_a_card(hand, told):
    """Whether all is made as in a hand-on but, perhaps, what its hands are, told being the cards."""
    if len(hand) != 3 or not is_whole(hand[0]) or not 0 <= hand[0] < len(told):
        return False
    place, x, names, hands = told[hand[0]]
    return are_numbers(hand[1], len(names)) and isinstance(hand[2], tuple) and len(hand[2]) == len(hands)


def behind(turned, stand):
    """What is told behind a stand and the next one, or None where that was the last."""
    return Going(turned).step(stand)


class Going:
    """Goes from stand to stand of a turned book, hand-ons being as is_stand has them."""

    def __init__(self, turned):
        found = posts_placed(turned)
        self.errands = {name: (names, body) for name, names, body in turned}
        self.posts = [post for place, post in found]
        self.cards = [card_of(place, post) for place, post in found]
        # A post's word is unlike those of the errand's other posts.
        self.card_numbers = {(place[0], post[1]): k for k, (place, post) in enumerate(found)}

    def step(self, stand):
        if stand[0] == "ask":
            head, f, numbers, home = stand
            names, body = self.errands[f]
            return self.pass_on(f, body, dict(zip(names, numbers)), {HOME: home})
        hand = self.taken_apart(stand[2])
        if len(hand) == 0:
            return None
        number, numbers, hands = hand
        place, x, names, hand_words = self.cards[number]
        words = {**dict(zip(names, numbers)), x: stand[1]}
        return self.pass_on(place[0], self.posts[number][3], words, dict(zip(hand_words, hands)))

    def pass_on(self, f, part, words, hands):
        """Do a part of errand f till it gives or asks."""
        return passed(part, words, hands, lambda post, own, around: self.hand_on(f, post, own, around))

    def hand_on(self, f, post, words, hands):
        number = self.card_numbers[(f, post[1])]
        place, x, names, hand_words = self.cards[number]
        numbers = tuple([words[name] for name in names])
        return self.put_together(number, numbers, tuple([hands[word] for word in hand_words]))

    def put_together(self, number, numbers, hands):
        return number, numbers, hands

    def taken_apart(self, hand):
        return hand
