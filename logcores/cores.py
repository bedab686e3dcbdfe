"""What is left of a log, and why the rest is struck [31] to [35]."""

from itertools import combinations

from logcores.errors import InvalidPlaces
from logcores.forms import is_place
from logcores.logs import check_book_and_log, picked, row_of
from logcores.rows import core_places, is_core_row, places_behind, row_strikes, sweep, taken_out
from logcores.settled import check_settled


def check_settled_log(book, log):
    """Raise what is wrong with a book, with a log of it, and Unsettled unless the book's rule is settled."""
    check_book_and_log(book, log)
    check_settled(book.rule(), book)


def check_place(log, place):
    """Raise InvalidPlaces unless any object is a place of a log."""
    if not is_place(len(log), place):
        raise InvalidPlaces(place)


def check_struck(book, log, place):
    """Raise what is wrong with a book, a log of it, and the place of a struck entry of the log."""
    check_book_and_log(book, log)
    check_place(log, place)
    check_settled(book.rule(), book)
    if place in kept_of(book, log):
        raise InvalidPlaces(place)


def kept_of(book, log):
    """Return the places of the kept entries of a log of a settled rule."""
    return core_places(book.rule().tables, row_of(book, log))


def core_of(book, log):
    """Return the core of a log of a settled rule."""
    return picked(log, kept_of(book, log))


def core(book, log):
    """Return the log without strikes to which strikes lead."""
    check_settled_log(book, log)
    return core_of(book, log)


def kept(book, log):
    """Return the ascending list of the places of the entries that come through."""
    check_settled_log(book, log)
    return kept_of(book, log)


def is_core(book, log):
    """Return whether no strike fits a log."""
    check_settled_log(book, log)
    return is_core_row(book.rule().tables, row_of(book, log))


def striking(book, log):
    """Return strikes that lead from a log to its core."""
    check_settled_log(book, log)
    return sweep(book.rule().tables, row_of(book, log))[1]


def is_striking(book, log, value):
    """Return whether any object is a list of strikes that lead from a log to its core."""
    check_settled_log(book, log)
    return _leads_to_core(book, log, value)


def _leads_to_core(book, log, value):
    row = row_of(book, log)
    places = places_behind(book.rule().tables, row, value)
    return places is not None and is_core_row(book.rule().tables, picked(row, places))


def fewest_strikes(book, log):
    """Return the least number of strikes that lead from a log to its core."""
    check_settled_log(book, log)
    return len(_fewest_of(book, log))


def fewest_striking(book, log):
    """Return as few strikes as can be that lead from a log to its core."""
    check_settled_log(book, log)
    return _fewest_of(book, log)


def _fewest_of(book, log):
    row = row_of(book, log)
    start = tuple(range(len(row)))
    ways = {start: []}
    level = [start]
    while True:
        later = []
        for places in level:
            found = row_strikes(book.rule().tables, picked(row, places))
            if found == []:
                return ways[places]
            for strike in found:
                first, end = taken_out(strike)
                left = places[:first] + places[end:]
                if left not in ways:
                    ways[left] = ways[places] + [strike]
                    later.append(left)
        level = later


def is_fewest_striking(book, log, value):
    """Return whether any object is a list of as few strikes as can be that lead from a log to its core."""
    check_settled_log(book, log)
    return _leads_to_core(book, log, value) and len(value) == len(_fewest_of(book, log))


def reason(book, log, place):
    """Return strikes the last of which, and no other one, takes a struck entry out."""
    check_struck(book, log, place)
    row = row_of(book, log)
    made = sweep(book.rule().tables, row)[1]
    many = 1
    while place in places_behind(book.rule().tables, row, made[:many]):
        many += 1
    return made[:many]


def is_reason(book, log, place, value):
    """Return whether any object is a list of strikes the last of which, and no other one, takes an entry out."""
    check_struck(book, log, place)
    tables = book.rule().tables
    row = row_of(book, log)
    left = places_behind(tables, row, value)
    # Nothing comes back: an entry that is there ahead of the last strike is taken out by none of those before.
    return left is not None and place not in left and place in places_behind(tables, row, value[:-1])


def witnesses(book, log, place):
    """Return the ascending list of the least lists of other places that strike an entry."""
    check_struck(book, log, place)
    return _witnesses_of(book, log, place)


def _witnesses_of(book, log, place):
    row = row_of(book, log)
    others = [other for other in range(len(row)) if other != place]
    found = []
    for size in range(1, len(others) + 1):
        for part in combinations(others, size):
            # One within which a smaller one lies is no witness, whether it strikes the entry or not.
            if not any([_lies_within(less, part) for less in found]) and _strikes_entry(book, row, place, part):
                found.append(list(part))
    return sorted(found)


def _lies_within(less, more):
    return all([place in more for place in less])


def _strikes_entry(book, row, place, others):
    places = sorted([place, *others])
    return places.index(place) not in core_places(book.rule().tables, picked(row, places))


def sure_places(book, log, place):
    """Return the ascending list of the places that are in each witness for a struck entry."""
    check_struck(book, log, place)
    first, *rest = _witnesses_of(book, log, place)
    return [other for other in first if all([other in witness for witness in rest])]


def from_behind(book, log):
    """Return the cores of the ends of a log, the whole log's first."""
    check_settled_log(book, log)
    found = [[]]
    for name in log[::-1]:
        found.append(core_of(book, [name] + found[-1]))
    return found[::-1]


def from_ahead(book, log):
    """Return the cores of the beginnings of a log, the empty one's first."""
    check_settled_log(book, log)
    found = [[]]
    for name in log:
        found.append(core_of(book, found[-1] + [name]))
    return found
