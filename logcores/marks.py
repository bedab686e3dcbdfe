"""Marks of rows without strikes, and the net of all of them.

Nothing here looks at the form of what it is passed. Each mark that has been
met has a number in the tables of its rule, the empty row's the number 0. A
net is a dictionary from the numbers to the dictionary from kinds to the
numbers behind them. Numbers hang on what was asked before, so nothing that
is told hangs on them: a net has its numbers in the order in which they are
met from the empty row on.
"""

from logcores.errors import Boundless


def mark_behind(tables, mark, kind):
    """Return the mark of a row with a kind put behind it, None if a strike fits then."""
    ends, pairs = mark
    found = [(end, kind) for end in ends] + [(early, tables.made[late][kind]) for early, late in pairs]
    if any([late in tables.covering[early] or late in tables.stopping[early] for early, late in found]):
        return None
    return (tuple(sorted(set([kind] + [tables.made[end][kind] for end in ends]))), tuple(sorted(set(found))))


def step(tables, number, kind):
    """Return the number of the mark behind a mark and a kind, None if a strike fits then."""
    known = tables.steps[number]
    if kind not in known:
        known[kind] = _number_of(tables, mark_behind(tables, tables.marks[number], kind))
    return known[kind]


def _number_of(tables, mark):
    if mark is None:
        return None
    if mark not in tables.numbers:
        tables.numbers[mark] = len(tables.marks)
        tables.marks.append(mark)
        tables.steps.append({})
    return tables.numbers[mark]


def number_on(tables, number, row):
    """Return the number behind a mark and a row of kinds, None if a strike fits somewhere on the way."""
    for kind in row:
        if number is not None:
            number = step(tables, number, kind)
    return number


def steps_from(tables, number):
    """Return the dictionary, ascending, from the kinds that may follow a mark to the numbers behind them."""
    behind = {kind: step(tables, number, kind) for kind in tables.ordered}
    return {kind: later for kind, later in behind.items() if later is not None}


def net_of(tables):
    """Return the net of a rule."""
    found = {}
    order = [0]
    met = {0: True}
    while len(found) < len(order):
        number = order[len(found)]
        found[number] = steps_from(tables, number)
        for later in found[number].values():
            if later not in met:
                met[later] = True
                order.append(later)
    return found


def ring_of(tables):
    """Return a row and another one that may be put behind it for ever, None if cores are bounded.

    The net is walked only as far as needed: that of four kinds may have thousands of marks.
    """
    path = [0]
    row = []
    coming = [list(steps_from(tables, 0).items())]
    places = {0: 0}
    done = {}
    while path:
        if coming[-1] == []:
            number = path.pop()
            done[number] = True
            del places[number], coming[-1], row[-1:]
            continue
        kind, later = coming[-1].pop(0)
        if later in places:
            row.append(kind)
            return (row[:places[later]], row[places[later]:])
        if later not in done:
            row.append(kind)
            places[later] = len(path)
            path.append(later)
            coming.append(list(steps_from(tables, later).items()))
    return None


def is_bounded(tables):
    """Return whether the cores of a settled rule are bounded."""
    if tables.bounded is None:
        tables.bounded = ring_of(tables) is None
    return tables.bounded


def check_bounded(rule, told):
    """Raise Boundless with what was passed, a rule or its book, unless the cores of a settled rule are bounded."""
    if not is_bounded(rule.tables):
        raise Boundless(told)


def heights_within(net):
    """Return the least heights of the marks of a net from which no walk goes on for ever."""
    known = {}
    left = list(net)
    found = left
    while found != []:
        found = [number for number in left if all([later in known for later in net[number].values()])]
        for number in found:
            known[number] = max([known[later] + 1 for later in net[number].values()], default=0)
        left = [number for number in left if number not in known]
    return known


def shortest_row(net, start, goal):
    """Return a shortest row of kinds that leads from one mark of a net to another one, None if there is none."""
    ways = {start: []}
    level = [start]
    while level and goal not in ways:
        later = []
        for number in level:
            for kind, behind in net[number].items():
                if behind not in ways:
                    ways[behind] = ways[number] + [kind]
                    later.append(behind)
        level = later
    return ways.get(goal)


def leaders_of(net):
    """Return the dictionary from each mark of a net to one that stands for all that lead to it and back.

    Those of one leader stand together, and ahead of all others to which they lead.
    """
    back = {number: [] for number in net}
    for number in net:
        for later in net[number].values():
            back[later].append(number)
    leaders = {}
    for start in _by_finish(net)[::-1]:
        waiting = [start]
        while waiting:
            number = waiting.pop()
            if number not in leaders:
                leaders[number] = start
                waiting.extend(back[number])
    return leaders


def _by_finish(net):
    """Return the list of the marks of a net, each behind all that were first met by way of it."""
    order = []
    met = {}
    waiting = [(0, False)]
    while waiting:
        number, done = waiting.pop()
        if done:
            order.append(number)
        elif number not in met:
            met[number] = True
            waiting.append((number, True))
            waiting.extend([(later, False) for later in net[number].values()])
    return order


def steps_within(net, leaders, number):
    """Return the ascending list of the kinds by which a mark of a net leads to one of the same leader."""
    return [kind for kind, later in net[number].items() if leaders[later] == leaders[number]]
