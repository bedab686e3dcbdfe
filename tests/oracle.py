"""What the document says of strikes, in its own plain words and slowly, to hold the program against."""

import itertools

from logcores.kinds import Kinds, can_cover, can_stop
from logcores.rules import Rule

# What core_of has found out, by the numbers of the rules.
KNOWN = {}


def parts_of(items):
    """All ascending lists of some of the items, the shortest first."""
    return [list(part) for size in range(len(items) + 1) for part in itertools.combinations(items, size)]


def rows(kinds, longest):
    """All rows of up to so many entries, the empty one first, those of one size ascending."""
    return [list(row) for size in range(longest + 1) for row in itertools.product(kinds.words(), repeat=size)]


def made_by(kinds, row):
    made = row[0]
    for kind in row[1:]:
        made = kinds.put(made, kind)
    return made


def strikes_on(rule, row):
    found = []
    for first, cut, end in itertools.combinations(range(len(row) + 1), 3):
        pair = (made_by(rule.kinds(), row[first:cut]), made_by(rule.kinds(), row[cut:end]))
        if pair in rule.covers():
            found.append(("cover", first, cut, end))
        if pair in rule.stops():
            found.append(("stop", first, cut, end))
    return sorted(found)


def out_of(strike):
    word, first, cut, end = strike
    return range(first, cut) if word == "cover" else range(cut, end)


def left_behind(row, strike):
    return [entry for at, entry in enumerate(row) if at not in out_of(strike)]


def led_to(rule, row, places=None):
    """The set of all tuples of places to which strikes lead, some or none."""
    found, waiting = set(), [tuple(range(len(row))) if places is None else tuple(places)]
    while waiting:
        now = waiting.pop()
        if now not in found:
            found.add(now)
            waiting.extend(tuple(left_behind(now, strike)) for strike in strikes_on(rule, [row[at] for at in now]))
    return found


def ends_of(rule, row):
    found = sorted(list(places) for places in led_to(rule, row))
    return [places for places in found if strikes_on(rule, [row[at] for at in places]) == []]


def settles(rule):
    return all(len(ends_of(rule, row)) == 1 for row in rows(rule.kinds(), 5) if row)


def core_of(rule, row):
    """The places of the core, whatever order the strikes are made in: here always the last one."""
    # The rule is kept beside what is known of it, so that no other one can come to have its number.
    known = KNOWN.setdefault(id(rule), (rule, {}))[1]
    if tuple(row) not in known:
        places = list(range(len(row)))
        while found := strikes_on(rule, [row[at] for at in places]):
            places = left_behind(places, found[-1])
        known[tuple(row)] = places
    return list(known[tuple(row)])


def core_names(book, log):
    """The core of a log, by its names."""
    return [log[place] for place in core_of(book.rule(), [book.names()[name] for name in log])]


def logs_of(book, longest, shortest=0):
    """All logs of a book of up to so many entries, those of one size ascending."""
    return [list(log) for size in range(shortest, longest + 1) for log in itertools.product(book.names(), repeat=size)]


def forces_on(rule, row):
    found = led_to(rule, row)
    forces = []
    for first, second in itertools.combinations(range(len(row)), 2):
        if (first, second) in found and (second,) in found:
            forces.append(("cover", row, first, second))
        if (first, second) in found and (first,) in found:
            forces.append(("stop", row, first, second))
    return forces


def all_tables(words):
    """All tables of some kinds in which three put together make one kind however they are bracketed."""
    pairs = list(itertools.product(words, repeat=2))
    for made in itertools.product(words, repeat=len(pairs)):
        table = dict(zip(pairs, made))
        if all(table[table[a, b], c] == table[a, table[b, c]] for a in words for b in words for c in words):
            yield table


def all_rules(words):
    """All rules of some kinds."""
    for table in all_tables(words):
        kinds = Kinds(table)
        for covers in parts_of(can_cover(kinds)):
            for stops in parts_of(can_stop(kinds)):
                yield Rule(kinds, covers, stops)
