"""Pairs that hold wherever a rule holds, and the settled rules within a rule [17] to [19]."""

from itertools import combinations

from logcores.errors import InvalidPairs, InvalidWord
from logcores.forms import is_place, is_tuple_of
from logcores.kinds import can_cover, can_stop, is_row
from logcores.rows import reached, rows_of
from logcores.rules import Rule, check_rule, is_within, rule_with
from logcores.settled import LONGEST, is_settled


def is_force(rule, value):
    """Return whether any object is a force."""
    check_rule(rule)
    if not is_tuple_of(4, value) or not is_row(rule.kinds(), value[1]):
        return False
    word, row, first, second = value
    if not is_place(len(row), first) or not is_place(len(row), second) or not first < second:
        return False
    return [word, first, second] in _forces_of(rule, row)


def _forces_of(rule, row):
    """Return the list of the word and the places of each force with a row."""
    found = reached(rule.tables, row, list(range(len(row))))
    forces = []
    for first, second in combinations(range(len(row)), 2):
        if (first, second) in found:
            if (second,) in found:
                forces.append(["cover", first, second])
            if (first,) in found:
                forces.append(["stop", first, second])
    return forces


def forced_pairs(rule):
    """Return the further pairs that are forced to cover, and those that are forced to stop, by rows of up to five."""
    check_rule(rule)
    covers = set()
    stops = set()
    for size in range(2, LONGEST + 1):
        for row in rows_of(rule.tables.ordered, size):
            for word, first, second in _forces_of(rule, row):
                if word == "cover":
                    covers.add((row[first], row[second]))
                else:
                    stops.add((row[first], row[second]))
    return ([pair for pair in sorted(covers) if pair not in rule.covers()],
            [pair for pair in sorted(stops) if pair not in rule.stops()])


def force_of(rule, word, pair):
    """Return a force of a pair by a row of as few entries as can be, at most five, None if there is none."""
    check_rule(rule)
    if word not in ("cover", "stop"):
        raise InvalidWord(word)
    allowed = can_cover(rule.kinds()) if word == "cover" else can_stop(rule.kinds())
    if pair not in allowed:
        raise InvalidPairs(pair)
    for size in range(2, LONGEST + 1):
        for row in rows_of(rule.tables.ordered, size):
            for told, first, second in _forces_of(rule, row):
                if told == word and (row[first], row[second]) == pair:
                    return (word, list(row), first, second)
    return None


def forced_rule(rule):
    """Return the rule with all forced pairs put in, until none is forced."""
    check_rule(rule)
    covers, stops = forced_pairs(rule)
    while covers != [] or stops != []:
        rule = rule_with(rule, covers, stops)
        covers, stops = forced_pairs(rule)
    return rule


def settled_within(rule):
    """Return the ascending list of the pairs of the settled rules within a rule that are within no other one."""
    check_rule(rule)
    pairs = [("cover", pair) for pair in rule.covers()] + [("stop", pair) for pair in rule.stops()]
    found = []
    for size in range(len(pairs), -1, -1):
        for part in combinations(pairs, size):
            less = _rule_of(rule.kinds(), part)
            # The larger ones are all known: one within none of them is within no other one.
            if not any([is_within(less, more) for more in found]) and is_settled(less):
                found.append(less)
    return sorted([(less.covers(), less.stops()) for less in found])


def _rule_of(kinds, pairs):
    return Rule(kinds, [pair for word, pair in pairs if word == "cover"],
                [pair for word, pair in pairs if word == "stop"])
