"""Rules of which whatever is struck first leaves the same [26] to [30]."""

from logcores.allrows import AllRows, least_in, numbers_in
from logcores.errors import InvalidCount, Unsettled
from logcores.forms import are_places, is_count, is_tuple_of
from logcores.kinds import check_row, is_row
from logcores.rows import fits, reached, row_strikes, taken_out
from logcores.rules import check_rule

# Two strikes that share an entry have at most five blocks.
LONGEST = 5


def is_settled(rule):
    """Return whether strikes lead from each row to one row without strikes alone."""
    check_rule(rule)
    tables = rule.tables
    if tables.settled is None:
        tables.settled = _first_split(tables) is None
    return tables.settled


def check_settled(rule, told):
    """Raise Unsettled with what was passed, a rule or its book, unless the rule is settled."""
    if not is_settled(rule):
        raise Unsettled(told)


def _first_split(tables):
    """Return the first of the shortest rows that have several last ones, and these; None if there is none."""
    for size in range(2, LONGEST + 1):
        every = AllRows(tables, size)
        several = every.with_several_ends()
        if several > 0:
            return (every.row(least_in(several)), every.ends_of(least_in(several)))
    return None


def last_ones(rule, row):
    """Return the ascending list of the lists of places that are left where no strike fits any more."""
    check_rule(rule)
    check_row(rule.kinds(), row)
    return _ends_of(rule, row)


def _ends_of(rule, row):
    found = reached(rule.tables, row, list(range(len(row))))
    return sorted([list(places) for places, gone in found.items() if gone == []])


def unsettled(rule):
    """Return a row with as few entries as can be and two of its last ones, None if the rule is settled."""
    check_rule(rule)
    split = _first_split(rule.tables)
    if split is None:
        return None
    row, ends = split
    return (row, ends[0], ends[1])


def is_unsettled(rule, value):
    """Return whether any object is a row with two unlike ones of its last ones."""
    check_rule(rule)
    if not is_tuple_of(3, value) or not is_row(rule.kinds(), value[0]):
        return False
    row, one, other = value
    if not are_places(len(row), one) or not are_places(len(row), other):
        return False
    ends = _ends_of(rule, row)
    return one != other and one in ends and other in ends


def unsettled_rows(rule, size):
    """Return the ascending list of the rows of so many entries that have several last ones."""
    check_rule(rule)
    if not is_count(size) or not 1 <= size <= LONGEST:
        raise InvalidCount(size)
    every = AllRows(rule.tables, size)
    return [every.row(number) for number in numbers_in(every.with_several_ends())]


def fork(rule):
    """Return a row of at most five entries and two strikes that never meet again, None if the rule is settled."""
    check_rule(rule)
    split = _first_split(rule.tables)
    if split is None:
        return None
    # All shorter rows have one last one each, so two strikes that lead to unlike ones never meet again.
    row = split[0]
    found = row_strikes(rule.tables, row)
    for other in found:
        if not _meet(rule.tables, row, found[0], other):
            return (row, found[0], other)
    return None


def is_fork(rule, value):
    """Return whether any object is a row with two strikes that never meet again."""
    check_rule(rule)
    if not is_tuple_of(3, value) or not is_row(rule.kinds(), value[0]):
        return False
    row, one, other = value
    if not fits(rule.tables, row, one) or not fits(rule.tables, row, other):
        return False
    return not _meet(rule.tables, row, one, other)


def _meet(tables, row, one, other):
    """Return whether strikes lead to the same places behind two strikes."""
    behind = reached(tables, row, _left_by(row, one))
    return any([places in behind for places in reached(tables, row, _left_by(row, other))])


def _left_by(row, strike):
    first, end = taken_out(strike)
    return [place for place in range(len(row)) if not first <= place < end]
