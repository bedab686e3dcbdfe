"""Rules: which kinds, side by side, make a neighbour needless [14] to [16]."""

from logcores.errors import InvalidPairs, InvalidRule, Unlike
from logcores.forms import is_ascending
from logcores.kinds import can_cover, can_stop, check_kinds, check_map, opposite, renamed
from logcores.tables import Tables


class Rule:
    """Kinds with the pairs of them that cover and the pairs that stop."""

    def __init__(self, kinds, covers, stops):
        check_kinds(kinds)
        _check_pairs(kinds, covers, stops)
        self._kinds = kinds
        self._covers = list(covers)
        self._stops = list(stops)
        self.tables = Tables(kinds.table(), covers, stops)

    def kinds(self):
        """Return the Kinds of the rule."""
        return self._kinds

    def covers(self):
        """Return the ascending list of the pairs whose second kind makes the first needless."""
        return list(self._covers)

    def stops(self):
        """Return the ascending list of the pairs whose first kind makes the second needless."""
        return list(self._stops)

    def __eq__(self, other):
        return (isinstance(other, Rule) and self._kinds == other._kinds
                and self._covers == other._covers and self._stops == other._stops)


def check_rule(rule):
    """Raise InvalidRule unless any object is a rule."""
    if not isinstance(rule, Rule):
        raise InvalidRule(rule)


def _check_pairs(kinds, covers, stops):
    if not _are_pairs(can_cover(kinds), covers):
        raise InvalidPairs(covers)
    if not _are_pairs(can_stop(kinds), stops):
        raise InvalidPairs(stops)


def _are_pairs(allowed, value):
    # Only pairs of words can be ordered, so the order is looked at last.
    return isinstance(value, list) and all([pair in allowed for pair in value]) and is_ascending(value)


def _check_same_kinds(one, other):
    check_rule(one)
    check_rule(other)
    if one.kinds() != other.kinds():
        raise Unlike(other)


def rule_with(rule, covers, stops):
    """Return the rule with further pairs."""
    check_rule(rule)
    _check_pairs(rule.kinds(), covers, stops)
    return Rule(rule.kinds(), _either(rule.covers(), covers), _either(rule.stops(), stops))


def rule_without(rule, covers, stops):
    """Return the rule without some pairs."""
    check_rule(rule)
    _check_pairs(rule.kinds(), covers, stops)
    return Rule(rule.kinds(), _first_alone(rule.covers(), covers), _first_alone(rule.stops(), stops))


def meet_rule(one, other):
    """Return the rule of the pairs that both rules have."""
    _check_same_kinds(one, other)
    return Rule(one.kinds(), _both(one.covers(), other.covers()), _both(one.stops(), other.stops()))


def union_rule(one, other):
    """Return the rule of the pairs that either rule has."""
    _check_same_kinds(one, other)
    return Rule(one.kinds(), _either(one.covers(), other.covers()), _either(one.stops(), other.stops()))


def is_within(one, other):
    """Return whether all pairs of the one rule are the other one's."""
    _check_same_kinds(one, other)
    covers = _first_alone(one.covers(), other.covers())
    stops = _first_alone(one.stops(), other.stops())
    return covers == [] and stops == []


def _either(one, other):
    return sorted(set(one) | set(other))


def _both(one, other):
    return [pair for pair in one if pair in other]


def _first_alone(one, other):
    return [pair for pair in one if pair not in other]


def mirrored_rule(rule):
    """Return the rule of the opposite Kinds, its covers the stops turned round and the other way."""
    check_rule(rule)
    return Rule(opposite(rule.kinds()), _turned(rule.stops()), _turned(rule.covers()))


def _turned(pairs):
    return sorted([(second, first) for first, second in pairs])


def renamed_rule(rule, sent):
    """Return the rule with its kinds exchanged for unlike words."""
    check_rule(rule)
    check_map(rule.kinds(), sent)
    return Rule(renamed(rule.kinds(), sent), _renamed_pairs(rule.covers(), sent), _renamed_pairs(rule.stops(), sent))


def _renamed_pairs(pairs, sent):
    return sorted([(sent[first], sent[second]) for first, second in pairs])
