"""Marks of rows without strikes, and the net of all of them.

Nothing here looks at the form of what it is passed. A net is a dictionary
from each mark to the dictionary from kinds to the marks behind them.
"""

from logcores.errors import Boundless

# The mark of the row without entries, from which all others come.
EMPTY = ((), ())


def mark_behind(tables, mark, kind):
    """Return the mark of a row with a kind put behind it, None if a strike fits then."""
    ends, pairs = mark
    found = [(end, kind) for end in ends] + [(early, tables.made[late][kind]) for early, late in pairs]
    if any([late in tables.covering[early] or late in tables.stopping[early] for early, late in found]):
        return None
    return (tuple(sorted(set([kind] + [tables.made[end][kind] for end in ends]))), tuple(sorted(set(found))))


def mark_on(tables, mark, row):
    """Return the mark behind a mark and a row of kinds, None if a strike fits somewhere on the way."""
    for kind in row:
        if mark is not None:
            mark = mark_behind(tables, mark, kind)
    return mark


def net_of(tables):
    """Return the net of a rule, all keys ascending."""
    found = {}
    waiting = [EMPTY]
    while waiting:
        mark = waiting.pop()
        if mark not in found:
            found[mark] = _steps_from(tables, mark)
            waiting.extend(list(found[mark].values()))
    return {mark: found[mark] for mark in sorted(found)}


def _steps_from(tables, mark):
    behind = {kind: mark_behind(tables, mark, kind) for kind in tables.ordered}
    return {kind: later for kind, later in behind.items() if later is not None}


def heights_within(steps):
    """Return the least heights of the marks of a net from which no walk goes on for ever."""
    known = {}
    left = list(steps)
    found = left
    while found != []:
        found = [mark for mark in left if all([later in known for later in steps[mark].values()])]
        for mark in found:
            known[mark] = max([known[later] + 1 for later in steps[mark].values()], default=0)
        left = [mark for mark in left if mark not in known]
    return known


def is_bounded(steps):
    """Return whether a net has no ring."""
    return len(heights_within(steps)) == len(steps)


def check_bounded(rule, told):
    """Raise Boundless with what was passed, a rule or its book, unless the cores of a settled rule are bounded."""
    if not is_bounded(net_of(rule.tables)):
        raise Boundless(told)


def shortest_row(steps, start, goal):
    """Return a shortest row of kinds that leads from one mark of a net to another one, None if there is none."""
    ways = {start: []}
    level = [start]
    while level and goal not in ways:
        later = []
        for mark in level:
            for kind, behind in steps[mark].items():
                if behind not in ways:
                    ways[behind] = ways[mark] + [kind]
                    later.append(behind)
        level = later
    return ways.get(goal)


def leaders_of(steps):
    """Return the dictionary from each mark of a net to one that stands for all that lead to it and back.

    Those of one leader stand together, and ahead of all others to which they lead.
    """
    back = {mark: [] for mark in steps}
    for mark in steps:
        for later in steps[mark].values():
            back[later].append(mark)
    leaders = {}
    for start in _by_finish(steps)[::-1]:
        waiting = [start]
        while waiting:
            mark = waiting.pop()
            if mark not in leaders:
                leaders[mark] = start
                waiting.extend(back[mark])
    return leaders


def _by_finish(steps):
    """Return the list of the marks of a net, each behind all that were first met by way of it."""
    order = []
    met = {}
    waiting = [(EMPTY, False)]
    while waiting:
        mark, done = waiting.pop()
        if done:
            order.append(mark)
        elif mark not in met:
            met[mark] = True
            waiting.append((mark, True))
            waiting.extend([(later, False) for later in steps[mark].values()])
    return order


def steps_within(steps, leaders, mark):
    """Return the ascending list of the kinds by which a mark of a net leads to one of the same leader."""
    return [kind for kind, later in steps[mark].items() if leaders[later] == leaders[mark]]
