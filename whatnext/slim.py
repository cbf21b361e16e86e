"""Idle posts of turned books, and turned books without any."""

from whatnext.turnedbooks import hand_of, rest_of, turned_parts, with_rest
from whatnext.walks import met, placed, remade


def idle_places(turned):
    places = []
    for name, names, body in turned:
        places.extend([place for place, part in placed(name, body, turned_parts) if is_idle(part)])
    return places


def is_idle(part):
    return part[0] == "post" and (is_passed_on(part) or not is_handed_to(part[1], part[4]))


def is_passed_on(post):
    """Whether T gives on the very number that is given to the post's hand-on."""
    then = post[3]
    return then[0] == "give" and then[2] == ("name", post[2])


def is_handed_to(j, part):
    """Whether something in the part gives to j or hands it on."""
    return any([hand_of(one) == j for one in met(part, rest_of)])


def slim(turned):
    return tuple([(name, names, remade(body, rest_of, slim_part)) for name, names, body in turned])


def slim_part(part, rest):
    """The part with this rest in it, which has no idle posts, itself put out where it is one.

    Whether a post is idle hangs on what stands within it alone, and so it does no
    more when that is slim; k for j within it makes none idle that wasn't.
    """
    told = with_rest(part, rest)
    if not is_idle(told):
        return told
    head, j, x, then, inner = told
    if is_passed_on(told):
        return remade(inner, rest_of, lambda one, own: handed_instead(one, own, j, then[1]))
    return inner


def handed_instead(part, rest, j, k):
    """The part with this rest in it and, where it goes to j itself, k for j."""
    if hand_of(part) != j:
        return with_rest(part, rest)
    if part[0] == "give":
        return "give", k, part[2]
    return "ask", part[1], part[2], k
