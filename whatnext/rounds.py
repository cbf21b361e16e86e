"""Turned books gone on with, stand by stand, till a stand comes again."""

from whatnext.needs import need_asking, need_most
from whatnext.stands import MOST_HANDS_WITHIN, Going

MOST_STANDS = 2000
END = 0


def gone_on(turned, f, numbers, most):
    need_asking(turned, f, numbers)
    need_most(most, 1, MOST_STANDS)
    going = NumberedGoing(turned)
    seen = {}
    stand = ("ask", f, numbers, END)
    for many in range(most):
        if going.within(stand) > MOST_HANDS_WITHIN:
            return "deep", many
        if stand in seen:
            return "round", seen[stand], many - seen[stand]
        if is_last(stand):
            return "done", stand[1], many
        seen[stand] = many
        told, stand = going.step(stand)
    return ("on",)


def is_last(stand):
    return stand[0] == "give" and stand[2] == END


class NumberedGoing(Going):
    """Goes by numbers for hand-ons, equal ones having the same.

    So nothing is walked to tell whether a stand comes again or how deep it is,
    however often hand-ons hold one another.
    """

    def __init__(self, turned):
        Going.__init__(self, turned)
        self.rows = [()]
        self.depths = [0]
        self.row_numbers = {}

    def put_together(self, number, numbers, hands):
        row = (number, numbers, hands)
        if row not in self.row_numbers:
            self.row_numbers[row] = len(self.rows)
            self.rows.append(row)
            # There is always one among them, as what is given to a post goes on to something around it.
            self.depths.append(1 + max([self.depths[hand] for hand in hands]))
        return self.row_numbers[row]

    def taken_apart(self, hand):
        return self.rows[hand]

    def within(self, stand):
        """How many hand-ons are within one another in the stand."""
        return self.depths[stand[-1]]
