"""Pairs that hold wherever a rule holds, and the settled rules within a rule [17] to [19]."""

from itertools import combinations

from logcores.allrows import AllRows, least_in
from logcores.errors import InvalidPairs, InvalidWord
from logcores.forms import is_place, is_tuple_of
from logcores.kinds import can_cover, can_stop, is_row
from logcores.rows import reached
from logcores.rules import Rule, check_rule, rule_with
from logcores.settled import LONGEST, is_settled


def is_force(rule, value):
    """Return whether any object is a force."""
    check_rule(rule)
    if not is_tuple_of(4, value) or not is_row(rule.kinds(), value[1]):
        return False
    word, row, first, second = value
    if not is_place(len(row), first) or not is_place(len(row), second) or not first < second:
        return False
    return [word, first, second] in _forces_of(rule, row)


def _forces_of(rule, row):
    """Return the list of the word and the places of each force with a row."""
    found = reached(rule.tables, row, list(range(len(row))))
    forces = []
    for first, second in combinations(range(len(row)), 2):
        if (first, second) in found:
            if (second,) in found:
                forces.append(["cover", first, second])
            if (first,) in found:
                forces.append(["stop", first, second])
    return forces


def forced_pairs(rule):
    """Return the further pairs that are forced to cover, and those that are forced to stop, by rows of up to five."""
    check_rule(rule)
    # Of a settled rule none is forced: what leads to an entry alone leads to it from the pair, too.
    if is_settled(rule):
        return ([], [])
    kinds = rule.kinds()
    covers = [pair for pair in can_cover(kinds) if pair not in rule.covers()]
    stops = [pair for pair in can_stop(kinds) if pair not in rule.stops()]
    every = [AllRows(rule.tables, size) for size in range(2, LONGEST + 1)]
    return (_forced_of(every, "cover", covers), _forced_of(every, "stop", stops))


def _forced_of(every, word, pairs):
    """Return those of some pairs that are forced by rows of some sizes to cover, or to stop."""
    found = {}
    for rows in every:
        for first, second in combinations(range(rows.size), 2):
            forcing = rows.forcing(word, first, second)
            for pair in pairs:
                if forcing & rows.with_pair(pair, first, second) > 0:
                    found[pair] = True
    return sorted(found)


def force_of(rule, word, pair):
    """Return a force of a pair by a row of as few entries as can be, at most five, None if there is none."""
    check_rule(rule)
    if word not in ("cover", "stop"):
        raise InvalidWord(word)
    allowed = can_cover(rule.kinds()) if word == "cover" else can_stop(rule.kinds())
    if pair not in allowed:
        raise InvalidPairs(pair)
    for size in range(2, LONGEST + 1):
        every = AllRows(rule.tables, size)
        for first, second in combinations(range(size), 2):
            rows = every.forcing(word, first, second) & every.with_pair(pair, first, second)
            if rows > 0:
                return (word, every.row(least_in(rows)), first, second)
    return None


def forced_rule(rule):
    """Return the rule with all forced pairs put in, until none is forced."""
    check_rule(rule)
    covers, stops = forced_pairs(rule)
    while covers != [] or stops != []:
        rule = rule_with(rule, covers, stops)
        covers, stops = forced_pairs(rule)
    return rule


def settled_within(rule):
    """Return the ascending list of the pairs of the settled rules within a rule that are within no other one."""
    check_rule(rule)
    pairs = [("cover", pair) for pair in rule.covers()] + [("stop", pair) for pair in rule.stops()]
    found = []
    for size in range(len(pairs), -1, -1):
        for part in combinations(pairs, size):
            # The larger ones are all known: one within none of them is within no other one.
            if not any([_lies_within(part, more) for more in found]) and is_settled(_rule_of(rule.kinds(), part)):
                found.append(part)
    return sorted([(_pairs_of("cover", part), _pairs_of("stop", part)) for part in found])


def _lies_within(less, more):
    return all([pair in more for pair in less])


def _rule_of(kinds, part):
    return Rule(kinds, _pairs_of("cover", part), _pairs_of("stop", part))


def _pairs_of(word, part):
    return [pair for told, pair in part if told == word]
