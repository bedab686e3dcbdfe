"""Which kinds may follow so that nothing is struck, and how long cores get [43] to [48]."""

from logcores.cores import check_settled_log, core_of
from logcores.errors import InvalidCount, InvalidLog
from logcores.forms import is_count, is_list_of, is_tuple_of
from logcores.logs import check_book, check_book_and_log, row_of
from logcores.marks import EMPTY, check_bounded, heights_within, is_bounded, leaders_of, mark_behind, mark_on, net_of
from logcores.marks import shortest_row, steps_within
from logcores.rows import is_core_row
from logcores.rules import check_rule
from logcores.settled import check_settled


def check_settled_rule(rule):
    """Raise InvalidRule or Unsettled unless any object is a settled rule."""
    check_rule(rule)
    check_settled(rule, rule)


def mark_of(rule, row):
    """Return the mark of a core row."""
    check_rule(rule)
    if not is_list_of(rule.tables.ordered, row) or not is_core_row(rule.tables, row):
        raise InvalidLog(row)
    check_settled(rule, rule)
    return mark_on(rule.tables, EMPTY, row)


def net(rule):
    """Return the marks of all core rows with the kinds that may follow and the marks behind them."""
    check_settled_rule(rule)
    return net_of(rule.tables)


def follow(book, log):
    """Return the ascending list of the names that may be put behind the core of a log so that nothing is struck."""
    check_settled_log(book, log)
    tables = book.rule().tables
    mark = mark_on(tables, EMPTY, row_of(book, core_of(book, log)))
    return [name for name, kind in book.names().items() if mark_behind(tables, mark, kind) is not None]


def longest(rule):
    """Return the greatest number of entries of a core, None if cores are not bounded."""
    check_settled_rule(rule)
    return _longest_of(net_of(rule.tables))


def _longest_of(steps):
    return heights_within(steps).get(EMPTY)


def longest_row(rule):
    """Return a core row of as many entries as can be, None if cores are not bounded."""
    check_settled_rule(rule)
    steps = net_of(rule.tables)
    known = heights_within(steps)
    if EMPTY not in known:
        return None
    row = []
    mark = EMPTY
    while known[mark] > 0:
        row.append([kind for kind, later in steps[mark].items() if known[later] == known[mark] - 1][0])
        mark = steps[mark][row[-1]]
    return row


def heights(rule):
    """Return the least heights of all marks, None if cores are not bounded."""
    check_settled_rule(rule)
    steps = net_of(rule.tables)
    known = heights_within(steps)
    if len(known) < len(steps):
        return None
    return {mark: known[mark] for mark in steps}


def are_heights(rule, value):
    """Return whether any object is heights of just the marks of the net."""
    check_settled_rule(rule)
    steps = net_of(rule.tables)
    if not isinstance(value, dict) or len(value) != len(steps):
        return False
    if not all([mark in value and is_count(value[mark]) for mark in steps]):
        return False
    return all([value[later] < value[mark] for mark in steps for later in steps[mark].values()])


def ring(rule):
    """Return a row and another one that may be put behind it for ever, None if cores are bounded."""
    check_settled_rule(rule)
    steps = net_of(rule.tables)
    known = heights_within(steps)
    if EMPTY in known:
        return None
    row = []
    mark = EMPTY
    met = {}
    while mark not in met:
        met[mark] = len(row)
        row.append([kind for kind, later in steps[mark].items() if later not in known][0])
        mark = steps[mark][row[-1]]
    return (row[:met[mark]], row[met[mark]:])


def is_ring(rule, value):
    """Return whether any object is a row and another one that may be put behind it for ever."""
    check_settled_rule(rule)
    words = rule.tables.ordered
    if not is_tuple_of(2, value) or not all([is_list_of(words, row) for row in value]) or value[1] == []:
        return False
    ahead, turn = value
    mark = mark_on(rule.tables, EMPTY, ahead)
    met = {}
    # The net has no more marks than the walk meets before one comes again.
    while mark is not None and mark not in met:
        met[mark] = True
        mark = mark_on(rule.tables, mark, turn)
    return mark is not None


def core_rows(rule, size):
    """Return how many core rows have so many entries."""
    check_rule(rule)
    _check_count(size)
    check_settled(rule, rule)
    return _numbers(net_of(rule.tables), {kind: 1 for kind in rule.tables.ordered}, size)[size][EMPTY]


def _check_count(number):
    if not is_count(number):
        raise InvalidCount(number)


def _numbers(steps, many, size):
    """Return, for each number of entries up to a size, from each mark the number of rows that go on from it.

    Each kind counts so many times.
    """
    found = [{mark: 1 for mark in steps}]
    for _ in range(size):
        last = found[-1]
        found.append({mark: sum([many[kind] * last[later] for kind, later in steps[mark].items()]) for mark in steps})
    return found


def _names_of_kinds(book):
    """Return how many names of a book each kind has."""
    given = list(book.names().values())
    return {kind: given.count(kind) for kind in book.rule().tables.ordered}


def core_logs(book, size):
    """Return how many logs of a book with so many entries are cores."""
    check_book(book)
    _check_count(size)
    check_settled(book.rule(), book)
    return _log_numbers(book, size)[size][EMPTY]


def _log_numbers(book, size):
    return _numbers(net_of(book.rule().tables), _names_of_kinds(book), size)


def many_unlike(book):
    """Return the number of all cores of a book."""
    check_book(book)
    check_settled(book.rule(), book)
    check_bounded(book.rule(), book)
    size = _longest_of(net_of(book.rule().tables))
    return sum([found[EMPTY] for found in _log_numbers(book, size)])


def core_at(book, size, number):
    """Return the core with so many entries at a position in the ascending list of them."""
    check_book(book)
    _check_count(size)
    _check_count(number)
    check_settled(book.rule(), book)
    found = _log_numbers(book, size)
    if number >= found[size][EMPTY]:
        raise InvalidCount(number)
    log = []
    mark = EMPTY
    ahead = number
    for rest in range(size - 1, -1, -1):
        for name, later, many in _names_on(book, mark, found[rest]):
            if ahead < many:
                log.append(name)
                mark = later
                break
            ahead -= many
    return log


def _names_on(book, mark, found):
    """Return the names, ascending, that may follow on a mark, with the mark behind and the number found for it."""
    tables = book.rule().tables
    behind = [(name, mark_behind(tables, mark, kind)) for name, kind in book.names().items()]
    return [(name, later, found[later]) for name, later in behind if later is not None]


def core_place(book, log):
    """Return the position of a core among those with as many entries."""
    check_book_and_log(book, log)
    if not is_core_row(book.rule().tables, row_of(book, log)):
        raise InvalidLog(log)
    check_settled(book.rule(), book)
    found = _log_numbers(book, len(log))
    ahead = 0
    mark = EMPTY
    for at, name in enumerate(log):
        ways = _names_on(book, mark, found[len(log) - at - 1])
        ahead += sum([many for other, _, many in ways if other < name])
        mark = [later for other, later, _ in ways if other == name][0]
    return ahead


def growth(rule):
    """Return how the numbers of core rows grow."""
    check_settled_rule(rule)
    steps = net_of(rule.tables)
    if is_bounded(steps):
        return ("bounded", _longest_of(steps))
    leaders = leaders_of(steps)
    if _crossing(steps, leaders) is not None:
        return ("doubling",)
    met = {}
    # Those behind come first, so that what a walk meets from them on is known.
    for mark in list(leaders)[::-1]:
        leader = leaders[mark]
        own = 1 if len(steps_within(steps, leaders, mark)) > 0 else 0
        behind = [met[leaders[later]] for later in steps[mark].values() if leaders[later] != leader]
        met[leader] = max([met.get(leader, own)] + [own + many for many in behind])
    return ("power", met[leaders[EMPTY]] - 1)


def _crossing(steps, leaders):
    """Return a mark of a net that lies in two unlike rounds, None if there is none."""
    for mark in steps:
        if len(steps_within(steps, leaders, mark)) > 1:
            return mark
    return None


def two_turns(rule):
    """Return a row and two turns that may be put behind it in any order, None unless numbers double."""
    check_settled_rule(rule)
    steps = net_of(rule.tables)
    leaders = leaders_of(steps)
    mark = _crossing(steps, leaders)
    if mark is None:
        return None
    one, other = [[kind] + shortest_row(steps, steps[mark][kind], mark)
                  for kind in steps_within(steps, leaders, mark)[:2]]
    return (shortest_row(steps, EMPTY, mark), one, other)


def are_two_turns(rule, value):
    """Return whether any object is a row and two turns that may be put behind it in any order."""
    check_settled_rule(rule)
    words = rule.tables.ordered
    if not is_tuple_of(3, value) or not all([is_list_of(words, row) for row in value]):
        return False
    ahead, one, other = value
    if one[:len(other)] == other or other[:len(one)] == one:
        return False
    mark = mark_on(rule.tables, EMPTY, ahead)
    return mark is not None and all([mark_on(rule.tables, mark, turn) == mark for turn in (one, other)])
