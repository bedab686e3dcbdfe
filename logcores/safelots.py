"""Struck entries that may be thrown away together [68] to [72]."""

from logcores.choices import all_choices, least_ones, lies_within
from logcores.cores import check_settled_log, check_struck, core_of, kept_of
from logcores.errors import InvalidPlaces
from logcores.forms import are_places
from logcores.logs import check_book_and_log, check_places, picked, row_of
from logcores.rows import cores_without_each
from logcores.settled import check_settled


def _check_lot(book, log, lot):
    check_book_and_log(book, log)
    check_places(log, lot)
    check_settled(book.rule(), book)
    kept = kept_of(book, log)
    if any([place in kept for place in lot]):
        raise InvalidPlaces(lot)


def _core_without(book, log, lot):
    return core_of(book, [name for place, name in enumerate(log) if place not in lot])


def _is_safe_lot(book, log, lot):
    return _core_without(book, log, lot) == core_of(book, log)


def _all_safe(book, log):
    kept = kept_of(book, log)
    return all_choices(book, log, [place for place in range(len(log)) if place not in kept])


def is_safe(book, log, lot):
    """Return whether a log without the entries of a lot is alike with it."""
    _check_lot(book, log, lot)
    return _is_safe_lot(book, log, lot)


def safe_lots(book, log):
    """Return the ascending list of all safe lots."""
    check_settled_log(book, log)
    return sorted(_all_safe(book, log))


def many_safe(book, log):
    """Return the number of safe lots."""
    check_settled_log(book, log)
    return len(_all_safe(book, log))


def least_with(book, log, place):
    """Return the ascending list of the least safe lots that have a struck entry."""
    check_struck(book, log, place)
    return least_ones([lot for lot in _all_safe(book, log) if place in lot])


def greatest_within(book, log, places):
    """Return a safe lot with as many as can be of some struck entries."""
    _check_lot(book, log, places)
    return max(all_choices(book, log, places), key=len)


def is_greatest_within(book, log, places, value):
    """Return whether any object is a safe lot with as many as can be of some struck entries."""
    _check_lot(book, log, places)
    if not are_places(len(log), value) or not lies_within(value, places):
        return False
    return _is_safe_lot(book, log, value) and len(value) == max([len(lot) for lot in all_choices(book, log, places)])


def why_unsafe(book, log, lot):
    """Return the cores of a log and of the log without a lot, None if the lot is safe."""
    _check_lot(book, log, lot)
    whole = core_of(book, log)
    left = _core_without(book, log, lot)
    return None if left == whole else (whole, left)


def never_alone(book, log):
    """Return the ascending list of the struck places that are no safe lot by themselves."""
    check_settled_log(book, log)
    kept = kept_of(book, log)
    whole = picked(log, kept)
    found = cores_without_each(book.rule().tables, row_of(book, log))
    return [place for place, left in enumerate(found) if place not in kept and picked(log, left) != whole]


def throwing_of(book, log, lot):
    """Return the places of a safe lot in an order in which each beginning is safe, None if there is none."""
    _check_lot(book, log, lot)
    safe = [one for one in _all_safe(book, log) if lies_within(one, lot)]
    ways = {(): []}
    for one in sorted(safe, key=len):
        for place in one:
            less = tuple([other for other in one if other != place])
            if less in ways and tuple(one) not in ways:
                ways[tuple(one)] = [*ways[less], place]
    return ways.get(tuple(lot))


def is_throwing(book, log, lot, value):
    """Return whether any object is a list of the places of a lot in an order in which each beginning is safe."""
    _check_lot(book, log, lot)
    if not isinstance(value, list) or not all([are_places(len(log), [place]) for place in value]):
        return False
    if sorted(value) != lot:
        return False
    return all([_is_safe_lot(book, log, value[:size]) for size in range(len(value) + 1)])
