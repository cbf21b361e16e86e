"""A turned part done till it gives or asks, whatever its hand-ons are kept as."""

from whatnext.simple import number_of
from whatnext.turnedbooks import hand_of, terms_in


def passed(part, words, hands, made):
    """Told are the numbers told on the way, and the give or ask with its numbers and its hand-on.

    words and hands tell what is around the part; made is handed a post and what is
    around that, and tells its hand-on. Neither words nor hands are ever changed.
    """
    told = []
    while part[0] not in ("give", "ask"):
        head = part[0]
        if head == "post":
            hands = {**hands, part[1]: made(part, words, hands)}
            part = part[4]
        elif head == "if":
            part = part[3] if number_of(part[1], words) == 0 else part[2]
        else:
            number = number_of(part[2], words)
            if head == "tell":
                told.append(number)
            words = {**words, part[1]: number}
            part = part[3]
    numbers = tuple([number_of(term, words) for term in terms_in(part)])
    hand = hands[hand_of(part)]
    if part[0] == "give":
        return told, ("give", numbers[0], hand)
    return told, ("ask", part[1], numbers, hand)
