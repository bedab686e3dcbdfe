"""Rows of kinds, and the strikes that fit them.

Nothing here looks at the form of what it is passed, but where it says that
it takes any object.
"""

from logcores.forms import is_strike
from logcores.marks import number_on, step


def rows_of(words, size):
    """Return the ascending list of all rows of so many words, as tuples."""
    rows = [()]
    for _ in range(size):
        rows = [(*row, word) for row in rows for word in words]
    return rows


def kind_of_row(tables, row):
    """Return the kind of a row that is not empty."""
    kind = row[0]
    for late in row[1:]:
        kind = tables.made[kind][late]
    return kind


def block_kinds(tables, row):
    """Return, for each place, the list of the kinds of the blocks from it on, the shortest block first."""
    found = []
    for first, kind in enumerate(row):
        kinds = [kind]
        for late in row[first + 1:]:
            kinds.append(tables.made[kinds[-1]][late])
        found.append(kinds)
    return found


def row_strikes(tables, row):
    """Return the ascending list of the strikes that fit a row."""
    found = block_kinds(tables, row)
    covers = []
    stops = []
    for first in range(len(row)):
        for cut in range(first + 1, len(row)):
            early = found[first][cut - first - 1]
            covering = tables.covering[early]
            stopping = tables.stopping[early]
            for size, late in enumerate(found[cut], start=1):
                if late in covering:
                    covers.append(("cover", first, cut, cut + size))
                if late in stopping:
                    stops.append(("stop", first, cut, cut + size))
    return covers + stops


def taken_out(strike):
    """Return the first and the end of what a strike takes out."""
    word, first, cut, end = strike
    return (first, cut) if word == "cover" else (cut, end)


def removals(tables, row):
    """Return the list of the blocks that some strike takes out of a row."""
    found = block_kinds(tables, row)
    ending = [[] for _ in row]
    gone = []
    for first, kinds in enumerate(found):
        for end, kind in enumerate(kinds, start=first + 1):
            if end < len(row):
                ending[end].append(kind)
                covering = tables.covering[kind]
                if covering and any([late in covering for late in found[end]]):
                    gone.append((first, end))
                    continue
            if any([kind in tables.stopping[early] for early in ending[first]]):
                gone.append((first, end))
    return gone


def fits(tables, row, value):
    """Return whether any object is a strike that fits a row."""
    if not is_strike(value) or value[3] > len(row):
        return False
    word, first, cut, end = value
    pairs = tables.covering if word == "cover" else tables.stopping
    return kind_of_row(tables, row[cut:end]) in pairs[kind_of_row(tables, row[first:cut])]


def places_behind(tables, row, value):
    """Return the places of a row that a list of strikes leaves, None if any object is no such list."""
    if not isinstance(value, list):
        return None
    places = list(range(len(row)))
    for strike in value:
        if not fits(tables, [row[place] for place in places], strike):
            return None
        first, end = taken_out(strike)
        del places[first:end]
    return places


def reached(tables, row, places):
    """Return the dictionary from the tuples of places to which strikes lead from some to the blocks that go next."""
    start = tuple(places)
    found = {}
    known = {}
    waiting = [start]
    while waiting:
        now = waiting.pop()
        if now not in found:
            kinds = tuple([row[place] for place in now])
            # The same kinds come again and again.
            if kinds not in known:
                known[kinds] = removals(tables, kinds)
            found[now] = known[kinds]
            waiting.extend([now[:first] + now[end:] for first, end in found[now]])
    return found


def sweep(tables, row):
    """Return the places of a row's core and a list of strikes that lead to it, by a settled rule."""
    left = []
    numbers = [0]
    made = []
    for place in range(len(row)):
        made.extend(_take_in(tables, row, left, numbers, place))
    return left, made


def _take_in(tables, row, left, numbers, place):
    """Put an entry behind what is left of those ahead of it, and return the strikes by which it settles there.

    What is left is changed, and with it the list of the numbers of the marks of its beginnings.
    """
    made = []
    coming = [place]
    while coming:
        left.append(coming.pop())
        number = step(tables, numbers[-1], row[left[-1]])
        if number is not None:
            numbers.append(number)
            continue
        strike = _strike_at_end(tables, [row[one] for one in left])
        made.append(strike)
        word, first, cut, _ = strike
        if word == "cover":
            # What stands behind comes anew: its entries have other neighbours now.
            coming.extend(left[cut:][::-1])
            cut = first
        del left[cut:], numbers[cut + 1:]
    return made


def _strike_at_end(tables, row):
    """Return a strike up to the end of a row that no other strike fits, None if there is none."""
    end = len(row)
    late = None
    for cut in range(end - 1, 0, -1):
        late = row[cut] if late is None else tables.made[row[cut]][late]
        early = None
        for first in range(cut - 1, -1, -1):
            early = row[first] if early is None else tables.made[row[first]][early]
            if late in tables.covering[early]:
                return ("cover", first, cut, end)
            if late in tables.stopping[early]:
                return ("stop", first, cut, end)
    return None


def core_places(tables, row):
    """Return the places of a row's core, by a settled rule."""
    return sweep(tables, row)[0]


def cores_ahead(tables, row):
    """Return the places of the cores of all beginnings of a row, the empty one's first, by a settled rule."""
    left = []
    numbers = [0]
    found = [[]]
    for place in range(len(row)):
        _take_in(tables, row, left, numbers, place)
        found.append(list(left))
    return found


def cores_without_each(tables, row):
    """Return, for each place of a row, the places of the core of the row without the entry there."""
    left = []
    numbers = [0]
    found = []
    for place in range(len(row)):
        behind = list(left)
        marks = list(numbers)
        for late in range(place + 1, len(row)):
            _take_in(tables, row, behind, marks, late)
        found.append(behind)
        _take_in(tables, row, left, numbers, place)
    return found


def is_core_row(tables, row):
    """Return whether no strike fits a row."""
    return number_on(tables, 0, row) is not None
