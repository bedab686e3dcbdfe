"""What later entries strike, by their kinds, and what none of them does [50] to [55]."""

from logcores.cores import check_place, kept_of
from logcores.errors import InvalidCount, InvalidFuture, InvalidPlaces
from logcores.forms import is_ascending, is_count, is_list_of, is_place, is_tuple_of
from logcores.kinds import check_kind, is_row
from logcores.logs import check_book_and_log, check_places, picked, row_of
from logcores.marks import check_bounded
from logcores.rows import core_places, is_core_row, row_strikes, rows_of, taken_out
from logcores.rules import check_rule
from logcores.settled import check_settled


def struck_in(book, log, future):
    """Return the ascending list of the kept places that a future strikes."""
    _check_future(book, log, future)
    return _struck_by(book, log, future)


def left_in(book, log, future):
    """Return the ascending list of the kept places that a future does not strike."""
    _check_future(book, log, future)
    struck = _struck_by(book, log, future)
    return [place for place in kept_of(book, log) if place not in struck]


def _check_future(book, log, future):
    check_book_and_log(book, log)
    if not is_row(book.rule().kinds(), future):
        raise InvalidFuture(future)
    check_settled(book.rule(), book)


def _struck_by(book, log, future):
    left = core_places(book.rule().tables, row_of(book, log) + future)
    return [place for place in kept_of(book, log) if place not in left]


def _check_all_bounded(book):
    check_settled(book.rule(), book)
    check_bounded(book.rule(), book)


def _check_kept(book, log, place):
    check_book_and_log(book, log)
    check_place(log, place)
    _check_all_bounded(book)
    if place not in kept_of(book, log):
        raise InvalidPlaces(place)


def _least_futures(book, log, size=None):
    """Return the dictionary from what comes of a log to the least row of kinds by which it comes, the least first.

    What comes is the tuple of the places of the log that are left, and of the
    kinds behind them. The rows have at most so many kinds; without such a
    number the cores have to be bounded.
    """
    row = row_of(book, log)
    start = (tuple(kept_of(book, log)), ())
    ways = {start: []}
    level = [start]
    while level and len(ways[level[0]]) != size:
        later = []
        for now in level:
            for kind in book.rule().tables.ordered:
                behind = _state_behind(book.rule().tables, row, now, kind)
                if behind not in ways:
                    ways[behind] = ways[now] + [kind]
                    later.append(behind)
        level = later
    return ways


def _state_behind(tables, row, state, kind):
    places, late = state
    whole = picked(row, places) + [*late, kind]
    left = core_places(tables, whole)
    many = len(places)
    return (tuple([places[at] for at in left if at < many]), tuple([whole[at] for at in left if at >= many]))


def least_future(book, log, place):
    """Return the least future that strikes a kept entry, None if none does."""
    _check_kept(book, log, place)
    for state, future in _least_futures(book, log).items():
        if place not in state[0]:
            return future
    return None


def is_future_striking(book, log, place, value):
    """Return whether any object is a future that strikes a kept entry."""
    _check_kept(book, log, place)
    return is_row(book.rule().kinds(), value) and place in _struck_by(book, log, value)


def kept_for_ever(book, log):
    """Return the ascending list of the kept places that no future strikes."""
    check_book_and_log(book, log)
    _check_all_bounded(book)
    states = _least_futures(book, log)
    return [place for place in kept_of(book, log) if all([place in state[0] for state in states])]


def why_kept(book, log, place):
    """Return all standings that come from that of a kept entry, ascending, None if some future strikes it."""
    _check_kept(book, log, place)
    states = _least_futures(book, log)
    if not all([place in state[0] for state in states]):
        return None
    row = row_of(book, log)
    return sorted({(tuple(picked(row, places)) + late, places.index(place)) for places, late in states})


def is_why_kept(book, log, place, value):
    """Return whether any object is a closed list that has the standing of a kept entry."""
    _check_kept(book, log, place)
    tables = book.rule().tables
    if not isinstance(value, list) or not all([_is_standing(tables, standing) for standing in value]):
        return False
    places = kept_of(book, log)
    own = (tuple(picked(row_of(book, log), places)), places.index(place))
    return is_ascending(value) and own in value and _is_closed(tables, value)


def _is_standing(tables, value):
    if not is_tuple_of(2, value) or not isinstance(value[0], tuple):
        return False
    row = list(value[0])
    return is_list_of(tables.ordered, row) and is_place(len(row), value[1]) and is_core_row(tables, row)


def _is_closed(tables, standings):
    for row, at in standings:
        for kind in tables.ordered:
            whole = [*row, kind]
            left = core_places(tables, whole)
            if at not in left or (tuple(picked(whole, left)), left.index(at)) not in standings:
                return False
    return True


def struck_sets(book, log):
    """Return the ascending list of the lists of just those kept places that some future strikes, or none at all."""
    check_book_and_log(book, log)
    _check_all_bounded(book)
    places = tuple(kept_of(book, log))
    struck = {_without(places, state[0]): True for state in _least_futures(book, log)}
    return [list(one) for one in sorted(struck)]


def _without(places, others):
    return tuple([place for place in places if place not in others])


def future_for(book, log, places):
    """Return the least future that strikes just some kept places, None if none does."""
    _check_all_kept(book, log, places)
    left = _without(tuple(kept_of(book, log)), places)
    for state, future in _least_futures(book, log).items():
        if state[0] == left:
            return future
    return None


def _check_all_kept(book, log, places):
    check_book_and_log(book, log)
    check_places(log, places)
    if places == []:
        raise InvalidPlaces(places)
    _check_all_bounded(book)
    kept = kept_of(book, log)
    if not all([place in kept for place in places]):
        raise InvalidPlaces(places)


def is_future_for(book, log, places, value):
    """Return whether any object is a future that strikes just some kept places."""
    _check_all_kept(book, log, places)
    return is_row(book.rule().kinds(), value) and _struck_by(book, log, value) == places


def struck_soon(book, log, size):
    """Return the ascending list of the kept places that some future of at most so many kinds strikes."""
    check_book_and_log(book, log)
    if not is_count(size) or size < 1:
        raise InvalidCount(size)
    check_settled(book.rule(), book)
    states = _least_futures(book, log, size)
    return [place for place in kept_of(book, log) if not all([place in state[0] for state in states])]


def lasting_kinds(rule):
    """Return the ascending list of the kinds no entry of which any log strikes."""
    check_rule(rule)
    tables = rule.tables
    taken = [kind for kind in tables.ordered if _is_taken(tables, kind)]
    return [kind for kind in tables.ordered if not any([around in taken for around in _kinds_around(tables, kind)])]


def _is_taken(tables, kind):
    """Return whether a kind is the first one of a cover or the second one of a stop."""
    return len(tables.covering[kind]) > 0 or any([kind in tables.stopping[ahead] for ahead in tables.ordered])


def _kinds_around(tables, kind):
    """Return the kinds of all rows with an entry of a kind in them, perhaps several times."""
    ends = [kind] + [tables.made[ahead][kind] for ahead in tables.ordered]
    return ends + [tables.made[end][late] for end in ends for late in tables.ordered]


def striking_row(rule, kind):
    """Return the least row of kinds with a strike that takes an entry of a kind, None if there is none."""
    check_rule(rule)
    check_kind(rule.kinds(), kind)
    # What is taken needs one entry more at each end, at most, and one beside it.
    for size in (2, 3, 4):
        for row in rows_of(rule.tables.ordered, size):
            for strike in row_strikes(rule.tables, row):
                first, end = taken_out(strike)
                if kind in row[first:end]:
                    return list(row)
    return None
