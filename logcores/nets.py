"""Which kinds may follow so that nothing is struck, and how long cores get [43] to [48]."""

from logcores.cores import check_settled_log, core_of
from logcores.errors import InvalidCount, InvalidLog
from logcores.forms import is_count, is_list_of, is_tuple_of
from logcores.logs import check_book, check_book_and_log, row_of
from logcores.marks import check_bounded, heights_within, is_bounded, leaders_of, net_of, number_on, ring_of
from logcores.marks import shortest_row, step, steps_within
from logcores.rows import is_core_row
from logcores.rules import check_rule
from logcores.settled import check_settled


def check_settled_rule(rule):
    """Raise InvalidRule or Unsettled unless any object is a settled rule."""
    check_rule(rule)
    check_settled(rule, rule)


def mark_of(rule, row):
    """Return the mark of a core row."""
    check_rule(rule)
    if not is_list_of(rule.tables.ordered, row) or not is_core_row(rule.tables, row):
        raise InvalidLog(row)
    check_settled(rule, rule)
    return rule.tables.marks[number_on(rule.tables, 0, row)]


def net(rule):
    """Return the marks of all core rows with the kinds that may follow and the marks behind them."""
    check_settled_rule(rule)
    steps = net_of(rule.tables)
    marks = rule.tables.marks
    found = {marks[number]: {kind: marks[later] for kind, later in steps[number].items()} for number in steps}
    return {mark: found[mark] for mark in sorted(found)}


def follow(book, log):
    """Return the ascending list of the names that may be put behind the core of a log so that nothing is struck."""
    check_settled_log(book, log)
    tables = book.rule().tables
    number = number_on(tables, 0, row_of(book, core_of(book, log)))
    return [name for name, kind in book.names().items() if step(tables, number, kind) is not None]


def longest(rule):
    """Return the greatest number of entries of a core, None if cores are not bounded."""
    check_settled_rule(rule)
    return _longest_of(rule.tables)


def _longest_of(tables):
    return heights_within(net_of(tables))[0] if is_bounded(tables) else None


def longest_row(rule):
    """Return a core row of as many entries as can be, None if cores are not bounded."""
    check_settled_rule(rule)
    if not is_bounded(rule.tables):
        return None
    steps = net_of(rule.tables)
    known = heights_within(steps)
    row = []
    number = 0
    while known[number] > 0:
        row.append([kind for kind, later in steps[number].items() if known[later] == known[number] - 1][0])
        number = steps[number][row[-1]]
    return row


def heights(rule):
    """Return the least heights of all marks, None if cores are not bounded."""
    check_settled_rule(rule)
    if not is_bounded(rule.tables):
        return None
    known = heights_within(net_of(rule.tables))
    found = {rule.tables.marks[number]: known[number] for number in known}
    return {mark: found[mark] for mark in sorted(found)}


def are_heights(rule, value):
    """Return whether any object is heights of just the marks of the net."""
    check_settled_rule(rule)
    # Where cores are not bounded there are none: a walk round a ring can't go down for ever.
    if not isinstance(value, dict) or not is_bounded(rule.tables):
        return False
    steps = net_of(rule.tables)
    marks = rule.tables.marks
    if len(value) != len(steps) or not all([marks[one] in value and is_count(value[marks[one]]) for one in steps]):
        return False
    return all([value[marks[later]] < value[marks[one]] for one in steps for later in steps[one].values()])


def ring(rule):
    """Return a row and another one that may be put behind it for ever, None if cores are bounded."""
    check_settled_rule(rule)
    return ring_of(rule.tables)


def is_ring(rule, value):
    """Return whether any object is a row and another one that may be put behind it for ever."""
    check_settled_rule(rule)
    words = rule.tables.ordered
    if not is_tuple_of(2, value) or not all([is_list_of(words, row) for row in value]) or value[1] == []:
        return False
    ahead, turn = value
    number = number_on(rule.tables, 0, ahead)
    met = {}
    # The net has no more marks than the walk meets before one comes again.
    while number is not None and number not in met:
        met[number] = True
        number = number_on(rule.tables, number, turn)
    return number is not None


def core_rows(rule, size):
    """Return how many core rows have so many entries."""
    check_rule(rule)
    _check_count(size)
    check_settled(rule, rule)
    return _numbers(rule.tables, {kind: 1 for kind in rule.tables.ordered}, size)[size]


def _check_count(number):
    if not is_count(number):
        raise InvalidCount(number)


def _numbers(tables, many, size):
    """Return, for each number of entries up to a size, the number of core rows; each kind counts so many times."""
    steps = net_of(tables)
    found = [1]
    ways = {0: 1}
    for _ in range(size):
        later = {}
        for mark, ahead in ways.items():
            for kind, behind in steps[mark].items():
                later[behind] = later.get(behind, 0) + ahead * many[kind]
        ways = later
        found.append(sum(list(ways.values())))
    return found


def _names_of_kinds(book):
    """Return how many names of a book each kind has."""
    given = list(book.names().values())
    return {kind: given.count(kind) for kind in book.rule().tables.ordered}


def core_logs(book, size):
    """Return how many logs of a book with so many entries are cores."""
    check_book(book)
    _check_count(size)
    check_settled(book.rule(), book)
    return _log_numbers(book, size)[size]


def _log_numbers(book, size):
    return _numbers(book.rule().tables, _names_of_kinds(book), size)


def many_unlike(book):
    """Return the number of all cores of a book."""
    check_book(book)
    check_settled(book.rule(), book)
    check_bounded(book.rule(), book)
    return many_cores(book)


def many_cores(book):
    """Return the number of all cores of a book of a settled rule whose cores are bounded."""
    return sum(_log_numbers(book, _longest_of(book.rule().tables)))


def core_at(book, size, number):
    """Return the core with so many entries at a position in the ascending list of them."""
    check_book(book)
    _check_count(size)
    _check_count(number)
    check_settled(book.rule(), book)
    behind = _numbers_behind(book, size)
    if number >= behind[0][0]:
        raise InvalidCount(number)
    log = []
    mark = 0
    ahead = number
    for at in range(size):
        for name, later, many in _names_on(book, mark, behind[at + 1]):
            if ahead < many:
                log.append(name)
                mark = later
                break
            ahead -= many
    return log


def _numbers_behind(book, size):
    """Return, for each place up to a size, from each mark met there the number of ways to go on to the size."""
    steps = net_of(book.rule().tables)
    many = _names_of_kinds(book)
    level = [0]
    levels = [level]
    for _ in range(size):
        level = list({later: True for mark in level for later in steps[mark].values()})
        levels.append(level)
    found = [{mark: 1 for mark in level}]
    for marks in levels[:-1][::-1]:
        last = found[-1]
        found.append({mark: sum([many[kind] * last[later] for kind, later in steps[mark].items()]) for mark in marks})
    return found[::-1]


def _names_on(book, mark, behind):
    """Return the names, ascending, that may follow on a mark, with the mark behind and the number told for it."""
    ways = [(name, step(book.rule().tables, mark, kind)) for name, kind in book.names().items()]
    return [(name, later, behind[later]) for name, later in ways if later is not None]


def core_place(book, log):
    """Return the position of a core among those with as many entries."""
    check_book_and_log(book, log)
    if not is_core_row(book.rule().tables, row_of(book, log)):
        raise InvalidLog(log)
    check_settled(book.rule(), book)
    behind = _numbers_behind(book, len(log))
    ahead = 0
    mark = 0
    for at, name in enumerate(log):
        ways = _names_on(book, mark, behind[at + 1])
        ahead += sum([many for other, _, many in ways if other < name])
        mark = [later for other, later, _ in ways if other == name][0]
    return ahead


def growth(rule):
    """Return how the numbers of core rows grow."""
    check_settled_rule(rule)
    if is_bounded(rule.tables):
        return ("bounded", _longest_of(rule.tables))
    steps = net_of(rule.tables)
    leaders = leaders_of(steps)
    if _crossing(steps, leaders) is not None:
        return ("doubling",)
    met = {}
    # Those behind come first, so that what a walk meets from them on is known.
    for mark in list(leaders)[::-1]:
        leader = leaders[mark]
        own = 1 if len(steps_within(steps, leaders, mark)) > 0 else 0
        behind = [met[leaders[later]] for later in steps[mark].values() if leaders[later] != leader]
        met[leader] = max([met.get(leader, own)] + [own + many for many in behind])
    return ("power", met[leaders[0]] - 1)


def _crossing(steps, leaders):
    """Return a mark of a net that lies in two unlike rounds, None if there is none."""
    for mark in steps:
        if len(steps_within(steps, leaders, mark)) > 1:
            return mark
    return None


def two_turns(rule):
    """Return a row and two turns that may be put behind it in any order, None unless numbers double."""
    check_settled_rule(rule)
    steps = net_of(rule.tables)
    leaders = leaders_of(steps)
    mark = _crossing(steps, leaders)
    if mark is None:
        return None
    one, other = [[kind] + shortest_row(steps, steps[mark][kind], mark)
                  for kind in steps_within(steps, leaders, mark)[:2]]
    return (shortest_row(steps, 0, mark), one, other)


def are_two_turns(rule, value):
    """Return whether any object is a row and two turns that may be put behind it in any order."""
    check_settled_rule(rule)
    words = rule.tables.ordered
    if not is_tuple_of(3, value) or not all([is_list_of(words, row) for row in value]):
        return False
    ahead, one, other = value
    if one[:len(other)] == other or other[:len(one)] == one:
        return False
    mark = number_on(rule.tables, 0, ahead)
    return mark is not None and all([number_on(rule.tables, mark, turn) == mark for turn in (one, other)])
