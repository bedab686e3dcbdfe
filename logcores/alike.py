"""Logs that have the same core, and how one comes from one to another [37] to [42]."""

from logcores.cores import check_settled_log, core_of
from logcores.errors import Apart, InvalidCount, InvalidLog
from logcores.forms import is_count, is_list_of, is_strike, is_tuple_of
from logcores.logs import check_book_and_log, check_log, row_of
from logcores.marks import check_bounded
from logcores.rows import fits, sweep, taken_out
from logcores.settled import check_settled


def _check_two(book, one, other):
    check_book_and_log(book, one)
    check_log(book, other)


def check_settled_two(book, one, other):
    """Raise what is wrong with a book, with two logs of it, and Unsettled unless the book's rule is settled."""
    _check_two(book, one, other)
    check_settled(book.rule(), book)


def are_alike(book, one, other):
    """Return whether two logs have the same core."""
    check_settled_two(book, one, other)
    return have_same_core(book, one, other)


def have_same_core(book, one, other):
    """Return whether two logs of a settled rule have the same core."""
    return core_of(book, one) == core_of(book, other)


def road(book, one, other):
    """Return steps that lead from one log to another one."""
    check_settled_two(book, one, other)
    if not have_same_core(book, one, other):
        raise Apart(other)
    down = sweep(book.rule().tables, row_of(book, one))[1]
    return [("out", strike) for strike in down] + _steps_up(book, other)


def _steps_up(book, log):
    """Return the steps that lead from the core of a log to it."""
    steps = []
    now = log
    for strike in sweep(book.rule().tables, row_of(book, log))[1]:
        first, end = taken_out(strike)
        steps.append(("in", strike, now[first:end]))
        now = now[:first] + now[end:]
    return steps[::-1]


def is_road(book, one, other, value):
    """Return whether any object is a list of steps that lead from one log to another one."""
    _check_two(book, one, other)
    if not isinstance(value, list):
        return False
    now = one
    for step in value:
        now = _log_behind(book, now, step)
        if now is None:
            return False
    return now == other


def _log_behind(book, log, step):
    """Return the log that any object makes as a step, None if it is no step from the log."""
    if is_tuple_of(2, step) and step[0] == "out" and _fits(book, log, step[1]):
        first, end = taken_out(step[1])
        return log[:first] + log[end:]
    if is_tuple_of(3, step) and step[0] == "in" and is_strike(step[1]) and is_list_of(book.names(), step[2]):
        first, end = taken_out(step[1])
        made = log[:first] + step[2] + log[first:]
        if len(step[2]) == end - first and _fits(book, made, step[1]):
            return made
    return None


def _fits(book, log, strike):
    return fits(book.rule().tables, row_of(book, log), strike)


def _check_number(number):
    if not is_count(number):
        raise InvalidCount(number)


def many_alike(book, log, size):
    """Return how many logs with so many entries are alike with a log."""
    check_book_and_log(book, log)
    _check_number(size)
    check_settled(book.rule(), book)
    check_bounded(book.rule(), book)
    behind = {now: _cores_behind(book, now) for now in _ways_from(book, [])}
    many = {now: 0 for now in behind}
    many[()] = 1
    for _ in range(size):
        last = many
        many = {now: 0 for now in behind}
        for now in behind:
            for later in behind[now].values():
                many[later] += last[now]
    return many[tuple(core_of(book, log))]


def _cores_behind(book, log):
    """Return the cores, as tuples, of a log with each name of the book behind it, by names."""
    return {name: tuple(core_of(book, [*log, name])) for name in book.names()}


def _ways_from(book, log):
    """Return the dictionary from the cores, as tuples, of all logs that begin with a log to shortest logs behind it.

    The cores have to be bounded.
    """
    start = tuple(core_of(book, log))
    ways = {start: []}
    level = [start]
    while level:
        later = []
        for now in level:
            for name, behind in _cores_behind(book, now).items():
                if behind not in ways:
                    ways[behind] = ways[now] + [name]
                    later.append(behind)
        level = later
    return ways


def repeated(book, log, times):
    """Return the core of a log done so many times."""
    check_book_and_log(book, log)
    _check_number(times)
    check_settled(book.rule(), book)
    now = []
    for _ in range(times):
        later = core_of(book, now + log)
        if later == now:
            break
        now = later
    return now


def rounds(book, log):
    """Return the least numbers of times ahead and of turns behind which the core of a log done so often comes again."""
    check_book_and_log(book, log)
    if log == []:
        raise InvalidLog(log)
    check_settled(book.rule(), book)
    check_bounded(book.rule(), book)
    met = {}
    now = core_of(book, log)
    times = 1
    while tuple(now) not in met:
        met[tuple(now)] = times
        now = core_of(book, now + log)
        times += 1
    ahead = met[tuple(now)]
    return (ahead, times - ahead)


def lead(book, one, other):
    """Return a shortest log that makes one log, put behind it, alike with another one, None if there is none."""
    check_settled_two(book, one, other)
    check_bounded(book.rule(), book)
    return _lead_of(book, one, other)


def _lead_of(book, one, other):
    return _ways_from(book, one).get(tuple(core_of(book, other)))


def is_lead(book, one, other, value):
    """Return whether any object is a shortest log that makes one log, put behind it, alike with another one."""
    check_settled_two(book, one, other)
    check_bounded(book.rule(), book)
    if not is_list_of(book.names(), value) or not have_same_core(book, one + value, other):
        return False
    return len(value) == len(_lead_of(book, one, other))


def led(book, log):
    """Return the number of unlike cores of the logs that begin with a log."""
    check_settled_log(book, log)
    check_bounded(book.rule(), book)
    return len(_ways_from(book, log))


def same_ends(book, one, other):
    """Return whether with each log, not empty, put behind both, two logs become alike."""
    check_settled_two(book, one, other)
    return _parting_end_of(book, one, other) is None


def parting_end(book, one, other):
    """Return a shortest log, not empty, with which behind both two logs are not alike, None if there is none."""
    check_settled_two(book, one, other)
    return _parting_end_of(book, one, other)


def _parting_end_of(book, one, other):
    # If no one name parts two logs, their cores are the same from the first name on.
    for name in book.names():
        if not have_same_core(book, one + [name], other + [name]):
            return [name]
    return None
