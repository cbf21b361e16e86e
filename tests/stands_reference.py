"""Second ways to tell the cards of a turned book, what is a stand, and what is behind one.

Written from the document's points 26 to 28; they call themselves and share
nothing with the program.
"""

from tests.turned_reference import number


def named(term):
    if term[0] == "name":
        return {term[1]}
    return set().union(*map(named, term[1:])) if term[0] in ("plus", "less") else set()


def free(part):
    """The words and the hand-ons that a part needs from around it."""
    sort = part[0]
    if sort == "give":
        return named(part[2]), {part[1]}
    if sort == "ask":
        return set().union(*map(named, part[2])), {part[3]}
    if sort == "if":
        (words, hands), (more, others) = free(part[2]), free(part[3])
        return named(part[1]) | words | more, hands | others
    if sort == "post":
        (words, hands), (more, others) = free(part[3]), free(part[4])
        return words - {part[2]} | more, hands | others - {part[1]}
    words, hands = free(part[3])
    return named(part[2]) | words - {part[1]}, hands


def posts(turned):
    """Each post with its card."""
    found = []

    def walk(part, place):
        if part[0] == "post":
            words, hands = free(part[3])
            found.append((part, (place, part[2], tuple(sorted(words - {part[2]})), tuple(sorted(hands)))))
            walk(part[3], place + (0,))
            walk(part[4], place + (1,))
        if part[0] in ("tell", "let"):
            walk(part[3], place + (1,))
        if part[0] == "if":
            walk(part[2], place + (1,))
            walk(part[3], place + (2,))

    for name, names, body in turned:
        walk(body, (name,))
    return found


def cards_reference(turned):
    return [card for post, card in posts(turned)]


def depth(hand):
    return 1 + max(map(depth, hand[2]), default=0) if hand else 0


def is_stand_reference(turned, thing):
    all_cards = cards_reference(turned)

    def are_numbers(one, many):
        return type(one) is tuple and len(one) == many and all(type(n) is int and 0 <= n <= 999 for n in one)

    def is_hand(one):
        if type(one) is not tuple or len(one) not in (0, 3):
            return False
        if not one:
            return True
        if type(one[0]) is not int or one[0] not in range(len(all_cards)):
            return False
        place, x, names, hands = all_cards[one[0]]
        return (
            are_numbers(one[1], len(names))
            and type(one[2]) is tuple
            and len(one[2]) == len(hands)
            and all(map(is_hand, one[2]))
        )

    if type(thing) is not tuple or not thing or not is_hand(thing[-1]) or depth(thing[-1]) > 60:
        return False
    if thing[0] == "give":
        return len(thing) == 3 and are_numbers(thing[1:2], 1)
    many = [len(names) for name, names, body in turned if name == thing[1]]
    return thing[0] == "ask" and len(thing) == 4 and many != [] and are_numbers(thing[2], many[0])


class Behind:
    def __init__(self, turned):
        self.turned = turned
        self.posts = posts(turned)

    def behind(self, stand):
        if stand[0] == "ask":
            ((names, body),) = [(names, body) for name, names, body in self.turned if name == stand[1]]
            return self.go(stand[1], body, dict(zip(names, stand[2])), {"home": stand[3]})
        if stand[2] == ():
            return None
        at, numbers, hands = stand[2]
        post, (place, x, names, words) = self.posts[at]
        return self.go(place[0], post[3], {**dict(zip(names, numbers)), x: stand[1]}, dict(zip(words, hands)))

    def go(self, f, part, words, hands):
        sort = part[0]
        if sort == "give":
            return [], ("give", number(part[2], words), hands[part[1]])
        if sort == "ask":
            return [], ("ask", part[1], tuple(number(s, words) for s in part[2]), hands[part[3]])
        if sort == "if":
            return self.go(f, part[2] if number(part[1], words) else part[3], words, hands)
        if sort == "post":
            ((at, card),) = [
                (at, card) for at, (post, card) in enumerate(self.posts) if card[0][0] == f and post[1] == part[1]
            ]
            made = (at, tuple(words[x] for x in card[2]), tuple(hands[j] for j in card[3]))
            return self.go(f, part[4], words, {**hands, part[1]: made})
        n = number(part[2], words)
        told, stand = self.go(f, part[3], {**words, part[1]: n}, hands)
        return [n] * (sort == "tell") + told, stand


def size(hand, most):
    """How many hand-ons, each counted as it is met, or most where there are more."""
    many, waiting = 0, [hand]
    while waiting and many < most:
        one = waiting.pop()
        many += 1
        waiting.extend(one[2] if one else ())
    return many


def gone_on_reference(turned, f, numbers, most):
    """As it is, or None where the hand-ons are too many to be walked."""
    ahead, stand, behind = [], ("ask", f, numbers, ()), Behind(turned)
    for many in range(most):
        if size(stand[-1], 500) == 500:
            return None
        if depth(stand[-1]) > 60:
            return ("deep", many)
        if stand in ahead:
            return ("round", ahead.index(stand), many - ahead.index(stand))
        if stand[0] == "give" and stand[2] == ():
            return ("done", stand[1], many)
        ahead.append(stand)
        told, stand = behind.behind(stand)
    return ("on",)
