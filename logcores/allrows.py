"""What strikes do to all rows of one size at once.

All rows of so many kinds, ascending, are numbered from 0 on: the binary
digits of a number tell a set of rows, so that all of them are asked at once.
The digits of a number tell a set of places of a row, too: those of 1 the
first place, of 2 the second one, of 3 both.
"""


class AllRows:
    """The rows of so many kinds, and to which places of theirs strikes lead."""

    def __init__(self, tables, size):
        self.ordered = tables.ordered
        self.size = size
        self.made = _rows_by_kinds(tables, size)
        self.reached, moving = _walk(tables, self.made)
        # What is reached and does not move on.
        self.ends = [rows - (rows & moving[places]) for places, rows in enumerate(self.reached)]

    def row(self, number):
        """Return the list of the kinds of the row with a number."""
        found = []
        left = number
        for _ in range(self.size):
            found.append(self.ordered[left % len(self.ordered)])
            left //= len(self.ordered)
        return found[::-1]

    def with_several_ends(self):
        """Return the set of the rows that have several last ones."""
        once = 0
        several = 0
        for rows in self.ends:
            several |= once & rows
            once |= rows
        return several

    def ends_of(self, number):
        """Return the ascending list of the last ones, as lists of places, of the row with a number."""
        return sorted([numbers_in(places) for places, rows in enumerate(self.ends) if rows >> number & 1 == 1])

    def forcing(self, word, first, second):
        """Return the set of the rows that force the pair of the kinds at two places to cover, or to stop."""
        alone = 1 << (second if word == "cover" else first)
        return self.reached[(1 << first) + (1 << second)] & self.reached[alone]

    def with_pair(self, pair, first, second):
        """Return the set of the rows with two kinds at two places."""
        return self.made[1 << first][pair[0]] & self.made[1 << second][pair[1]]


def least_in(told):
    """Return the least number of a set that binary digits tell."""
    return (told & -told).bit_length() - 1


def numbers_in(told):
    """Return the ascending list of the numbers of a set that binary digits tell."""
    found = []
    left = told
    while left > 0:
        found.append(least_in(left))
        left = left & (left - 1)
    return found


def _rows_by_kinds(tables, size):
    """Return, for each set of places, the dictionary from the kinds to the sets of the rows in which it makes them."""
    found = [{}]
    for single in _rows_by_single_kinds(tables.ordered, size):
        found = [*found, single, *[_rows_of_both(tables, ahead, single) for ahead in found[1:]]]
    return found


def _rows_by_single_kinds(words, size):
    """Return, for each place, the dictionary from the kinds to the sets of the rows with them there."""
    stretches = []
    many = 1
    for _ in range(size):
        stretches.append(many)
        many *= len(words)
    found = []
    for stretch in stretches[::-1]:
        # A kind stands at the place in so many rows one behind the other, and again behind those of all kinds.
        ones = (1 << stretch) - 1
        again = ((1 << many) - 1) // ((1 << stretch * len(words)) - 1)
        found.append({kind: again * (ones << stretch * at) for at, kind in enumerate(words)})
    return found


def _rows_of_both(tables, ahead, behind):
    found = {kind: 0 for kind in tables.ordered}
    for early, rows in ahead.items():
        made = tables.made[early]
        for late, others in behind.items():
            found[made[late]] |= rows & others
    return found


def _walk(tables, made):
    """Return, for each set of places, the set of rows in which strikes lead to it, and of those in which some fit."""
    reached = [0 for _ in made]
    moving = [0 for _ in made]
    reached[-1] = sum(list(made[1].values()))
    known = {}
    # What is left is always told by a lesser number.
    for places in range(len(made) - 1, 0, -1):
        here = reached[places]
        blocks = _neighbours(numbers_in(places)) if here > 0 else []
        for early, late in blocks:
            if (early, late) not in known:
                known[(early, late)] = (_rows_with(tables.covering, made[early], made[late]),
                                        _rows_with(tables.stopping, made[early], made[late]))
            covered, stopped = known[(early, late)]
            moving[places] |= covered | stopped
            reached[places - early] |= here & covered
            reached[places - late] |= here & stopped
    return reached, moving


def _neighbours(places):
    """Return the pairs of sets of places that are blocks, one directly ahead of the other, of some places."""
    found = []
    for cut in range(1, len(places)):
        early = 0
        for first in places[:cut][::-1]:
            early += 1 << first
            late = 0
            for last in places[cut:]:
                late += 1 << last
                found.append((early, late))
    return found


def _rows_with(pairs, ahead, behind):
    """Return the set of the rows in which two blocks are one of some pairs of kinds."""
    found = 0
    for kind, rows in ahead.items():
        for late in pairs[kind]:
            found |= rows & behind[late]
    return found
