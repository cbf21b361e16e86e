"""How many wait at most: rows of asks, each weighing as much as it makes wait, and their proofs."""

from whatnext.books import errand_named, is_whole
from whatnext.needs import need_errand
from whatnext.turnedbooks import HOME, turned_parts
from whatnext.walks import placed


def most_waiting(turned, f):
    """("most", row, levels) or, where rows may weigh more than any number, ("ring", lead, ring)."""
    need_errand(turned, f)
    asks = asks_placed(turned)
    rows = rows_from(f, asks)
    for place, (asked, weight) in asks.items():
        if weight > 0 and place[0] in rows:
            rows_on = rows_from(asked, asks)
            if place[0] in rows_on:
                return "ring", rows[place[0]], [place, *rows_on[place[0]]]
    levels = least_levels(asks, list(rows))
    return "most", greatest_row(f, asks, levels), levels


def asks_placed(turned):
    """The errand asked and the weight of each ask, by the ask's place."""
    asks = {}
    for name, names, body in turned:
        for place, part in placed(name, body, turned_parts):
            if part[0] == "ask":
                asks[place] = (part[1], 0 if part[3] == HOME else 1)
    return asks


def rows_from(f, asks):
    """A row from f to each errand to which such rows of these asks come, itself too."""
    rows = {f: []}
    waiting = [f]
    while waiting:
        name = waiting.pop()
        for place, (asked, weight) in asks.items():
            if place[0] == name and asked not in rows:
                rows[asked] = [*rows[name], place]
                waiting.append(asked)
    return rows


def least_levels(asks, names):
    """The least levels of these errands, where no ring of their asks weighs anything."""
    levels = {name: 0 for name in names}
    is_settled = False
    while not is_settled:
        is_settled = True
        for place, (asked, weight) in asks.items():
            if place[0] in levels and levels[place[0]] < levels[asked] + weight:
                levels[place[0]] = levels[asked] + weight
                is_settled = False
    return levels


def greatest_row(f, asks, levels):
    """A row from f of the weight that is its level, these being the least ones."""
    row = []
    name = f
    while levels[name] > 0:
        step = step_down(name, asks, levels)
        row.extend(step)
        name = asks[step[-1]][0]
    return row


def step_down(f, asks, levels):
    """A row from f, without weight but for its last ask, to an errand one level below.

    There is one, as some row weighs as much as f's level. No ask leads to a higher
    level, and one that weighs leads to a lower one; so the last ask stands on f's own
    level, and none ahead of it weighs.
    """
    rows = rows_from(f, asks)
    below = levels[f] - 1
    last = [place for place in asks if place[0] in rows and is_step_to(below, asks[place], levels)]
    return [*rows[last[0][0]], last[0]]


def is_step_to(level, ask, levels):
    """Whether an ask of this errand and weight weighs and leads to this level."""
    asked, weight = ask
    return weight > 0 and levels[asked] == level


def shows_most(turned, f, row, levels):
    """Whether most_waiting could tell this row and these levels."""
    asks = asks_placed(turned)
    if errand_named(turned, f) is None or led_to(f, row, asks) is None:
        return False
    if sorted(levels) != sorted(rows_from(f, asks)) or not are_levels(levels, asks):
        return False
    return levels[f] == weight_of(row, asks)


def shows_ring(turned, f, lead, ring):
    """Whether most_waiting could tell this lead and this ring."""
    asks = asks_placed(turned)
    first = led_to(f, lead, asks)
    if first is None or led_to(first, ring, asks) != first:
        return False
    return weight_of(ring, asks) > 0


def led_to(f, row, asks):
    """The errand to which a row from f leads, or None where it is no row from f."""
    name = f
    for place in row:
        if place not in asks or place[0] != name or not all([is_whole(k) for k in place[1:]]):
            return None
        name = asks[place][0]
    return name


def weight_of(row, asks):
    return sum([asks[place][1] for place in row])


def are_levels(levels, asks):
    """Whether these levels, of all errands that some rows come to, hold at each ask in them."""
    if not all([is_whole(level) and level >= 0 for level in list(levels.values())]):
        return False
    for place, (asked, weight) in asks.items():
        if place[0] in levels and levels[place[0]] < levels[asked] + weight:
            return False
    return True
