"""What readers who have done a part of a log still have to do [73] to [76]."""

from logcores.choices import all_choices, core_behind, least_ones
from logcores.cores import core_of, kept_of
from logcores.errors import InvalidCount, InvalidPlaces
from logcores.forms import are_places, is_place
from logcores.logs import check_book_and_log, picked
from logcores.settled import check_settled


def _check_place(book, log, place):
    check_book_and_log(book, log)
    if not is_place(len(log) + 1, place):
        raise InvalidCount(place)


def _check_reader(book, log, place):
    _check_place(book, log, place)
    check_settled(book.rule(), book)


def _is_rest(log, place, value):
    """Return whether any object is an ascending list of places of a log from a place on."""
    return are_places(len(log), value) and all([other >= place for other in value])


def _check_rest(book, log, place, rest):
    _check_place(book, log, place)
    if not _is_rest(log, place, rest):
        raise InvalidPlaces(rest)
    check_settled(book.rule(), book)


def _done(log, place, rest):
    return log[:place] + picked(log, rest)


def read_log(book, log, place, rest):
    """Return the log that a reader at a place has done behind a rest."""
    _check_rest(book, log, place, rest)
    return _done(log, place, rest)


def is_right(book, log, place, rest):
    """Return whether what a reader at a place has done behind a rest is alike with the log."""
    _check_rest(book, log, place, rest)
    return _is_right_rest(book, log, place, rest)


def _is_right_rest(book, log, place, rest):
    return core_of(book, _done(log, place, rest)) == core_of(book, log)


def _right_rests(book, log, place):
    """Return all right rests at a place, in no special order."""
    coming = list(range(place, len(log)))
    return [[other for other in coming if other not in left] for left in all_choices(book, log, coming)]


def fewest_left(book, log, place):
    """Return the least number of places of a right rest."""
    _check_reader(book, log, place)
    return len(_shortest_of(book, log, place))


def shortest_rest(book, log, place):
    """Return a right rest of as few places as can be."""
    _check_reader(book, log, place)
    return _shortest_of(book, log, place)


def _shortest_of(book, log, place):
    return min(_right_rests(book, log, place), key=len)


def is_shortest_rest(book, log, place, value):
    """Return whether any object is a right rest of as few places as can be."""
    _check_reader(book, log, place)
    if not _is_rest(log, place, value) or not _is_right_rest(book, log, place, value):
        return False
    return len(value) == len(_shortest_of(book, log, place))


def least_rests(book, log, place):
    """Return the ascending list of the right rests of which no other part is right."""
    _check_reader(book, log, place)
    return least_ones(_right_rests(book, log, place))


def always_read(book, log, place):
    """Return the ascending list of the places that every right rest has."""
    _check_reader(book, log, place)
    rests = _right_rests(book, log, place)
    return [other for other in range(place, len(log)) if all([other in rest for rest in rests])]


def _check_readers(book, log, places):
    check_book_and_log(book, log)
    if not are_places(len(log) + 1, places) or places == []:
        raise InvalidPlaces(places)
    check_settled(book.rule(), book)


def is_left_for_all(book, log, places, value):
    """Return whether any object is a list of places that is right for each of several readers from its place on."""
    _check_readers(book, log, places)
    if not are_places(len(log), value):
        return False
    return all([_is_right_rest(book, log, place, [one for one in value if one >= place]) for place in places])


def fewest_for_all(book, log, places):
    """Return the least number of places that are right for each of several readers."""
    _check_readers(book, log, places)
    return len(_fewest_of(book, log, places))


def left_for_all(book, log, places):
    """Return as few places as can be that are right for each of several readers."""
    _check_readers(book, log, places)
    return _fewest_of(book, log, places)


def _fewest_of(book, log, places):
    """Return as few places as can be that are right for all readers.

    The readers that have begun are told by the cores of what they have done:
    of each such state only a way of fewest places is followed.
    """
    known = {}
    ways = {(): []}
    for at, name in enumerate(log):
        if at in places:
            begun = tuple(core_of(book, log[:at]))
            ways = {(*now, begun): ways[now] for now in ways}
        behind = {now: ways[now] for now in ways}
        for now, way in ways.items():
            later = tuple([core_behind(book, core, name, known) for core in now])
            if later not in behind or len(way) + 1 < len(behind[later]):
                behind[later] = [*way, at]
        ways = behind
    whole = tuple(core_of(book, log))
    return ways[tuple([whole for place in places if place < len(log)])]


def stretch_rests(book, log, places):
    """Return the places that come through in the stretches from each reader to the next one, and to the end."""
    _check_readers(book, log, places)
    found = []
    for first, end in zip(places, [*places[1:], len(log)]):
        found.extend([first + place for place in kept_of(book, log[first:end])])
    return found
