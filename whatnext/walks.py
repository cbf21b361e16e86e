"""Walks over terms and turned parts, however far these are within one another.

A walk is handed the function that tells the parts right in a part. Nothing here
calls itself: what is still to be looked at is kept in a list.
"""


def met(body, parts):
    """All parts of the body, itself too, in the order of their places."""
    found = []
    waiting = [body]
    while waiting:
        part = waiting.pop()
        found.append(part)
        # The last one put here is taken first, so the first part goes in last.
        waiting.extend(parts(part)[::-1])
    return found


def placed(name, body, parts):
    """The same, each part behind its place."""
    found = []
    waiting = [((name,), body)]
    while waiting:
        place, part = waiting.pop()
        found.append((place, part))
        own = parts(part)
        for k in reversed(range(len(own))):
            waiting.append(((*place, k), own[k]))
    return found


def remade(body, parts, made):
    """What made tells of the body, handed each part and what it told of that one's parts."""
    got = []
    waiting = [(body, False)]
    while waiting:
        part, are_parts_done = waiting.pop()
        own = parts(part)
        if are_parts_done:
            got.append(made(part, last_taken(got, len(own))))
        else:
            waiting.append((part, True))
            waiting.extend([(one, False) for one in own[::-1]])
    return got.pop()


def last_taken(got, many):
    """The last so many of what was got, in their order; got is without them then."""
    first = len(got) - many
    taken = tuple(got[first:])
    del got[first:]
    return taken
