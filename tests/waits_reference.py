"""Second ways to tell how many wait at most, written from the document's point 29.

They find all asks by calling themselves and weigh rows length by length; they
share nothing with the program.
"""


def asks_of(turned):
    """Each ask: its place, the errand it asks, its weight."""
    found = []

    def walk(part, place):
        sort = part[0]
        if sort == "ask":
            found.append((place, part[1], int(part[3] != "home")))
        elif sort == "if":
            walk(part[2], place + (1,))
            walk(part[3], place + (2,))
        elif sort == "post":
            walk(part[3], place + (0,))
            walk(part[4], place + (1,))
        elif sort != "give":
            walk(part[3], place + (1,))

    for name, names, body in turned:
        walk(body, (name,))
    return found


def come_to(turned, f):
    names = {f}
    for _ in turned:
        names |= {asked for place, asked, weight in asks_of(turned) if place[0] in names}
    return names


def greatest_weight(turned, f):
    """That of the rows from f, or None where there are ever greater ones."""
    best = {f: 0}
    most = 0
    # Without a ring that weighs, no row weighs as much as there are errands.
    for _ in range(len(turned) * (len(turned) + 1)):
        further = {}
        for place, asked, weight in asks_of(turned):
            if place[0] in best:
                further[asked] = max(further.get(asked, 0), best[place[0]] + weight)
        best = further
        most = max([most, *best.values()])
    return None if most >= len(turned) else most


def row_weight(turned, f, row):
    """The weight of a row from f and the errand it leads to, or None where it is no such row."""
    total, at = 0, f
    asks = asks_of(turned)
    for place in row:
        found = [(asked, weight) for one, asked, weight in asks if one == place and one[0] == at]
        if not found:
            return None
        at, weight = found[0]
        total += weight
    return total, at


def shows_most_reference(turned, f, row, levels):
    if f not in [name for name, names, body in turned]:
        return False
    told = row_weight(turned, f, row)
    if told is None or set(levels) != come_to(turned, f) or min(levels.values()) < 0:
        return False
    asks = [one for one in asks_of(turned) if one[0][0] in levels]
    return levels[f] == told[0] and all(levels[place[0]] >= levels[asked] + weight for place, asked, weight in asks)


def shows_ring_reference(turned, f, lead, ring):
    if f not in [name for name, names, body in turned]:
        return False
    led = row_weight(turned, f, lead)
    if led is None:
        return False
    rung = row_weight(turned, led[1], ring)
    return rung is not None and rung[1] == led[1] and rung[0] > 0
