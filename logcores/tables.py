"""What a rule says of its kinds, held ready for many questions."""

# The mark of the row without entries, from which all others come.
EMPTY = ((), ())


class Tables:
    """What a rule says of two kinds side by side, and what has been found out about it at some cost."""

    def __init__(self, table, covers, stops):
        self.ordered = sorted({first for first, _ in table})
        self.made = {first: {late: table[(first, late)] for late in self.ordered} for first in self.ordered}
        self.covering = {first: {late: True for one, late in covers if one == first} for first in self.ordered}
        self.stopping = {first: {late: True for one, late in stops if one == first} for first in self.ordered}
        # None as long as nobody has asked.
        self.settled = None
        self.bounded = None
        # The marks that have been met, and by number the steps from them that have been looked at.
        self.marks = [EMPTY]
        self.numbers = {EMPTY: 0}
        self.steps = [{}]
