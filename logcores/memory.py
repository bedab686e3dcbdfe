"""What has to be remembered of a log so that its last entries can be taken back [62] to [67]."""

from logcores.cores import check_place, check_settled_log, core_of, kept_of
from logcores.errors import InvalidCount, InvalidName, InvalidPlaces
from logcores.forms import is_count, is_place, is_tuple_of, is_word
from logcores.logs import check_book_and_log, is_name, picked, row_of
from logcores.rows import cores_ahead, cores_without_each
from logcores.settled import check_settled


def _walk(book, log):
    """Return the places of the cores of all beginnings of a log, the empty one's first."""
    return cores_ahead(book.rule().tables, row_of(book, log))


def moments(book, log):
    """Return the list of the moments of the entries of a log."""
    check_settled_log(book, log)
    return _moments_of(_walk(book, log))


def _moments_of(walk):
    found = [None for _ in walk[1:]]
    for size in range(1, len(walk)):
        for place in [*walk[size - 1], size - 1]:
            if place not in walk[size]:
                found[place] = size
    return found


def _check_settled_place(book, log, place):
    check_book_and_log(book, log)
    check_place(log, place)
    check_settled(book.rule(), book)


def struck_with(book, log, place):
    """Return the place of the last entry of the beginning that first strikes an entry, None if it is kept."""
    _check_settled_place(book, log, place)
    moment = _moments_of(_walk(book, log))[place]
    return None if moment is None else moment - 1


def _check_count(number):
    if not is_count(number):
        raise InvalidCount(number)


def _check_number(book, log, number):
    check_book_and_log(book, log)
    _check_count(number)
    check_settled(book.rule(), book)
    if number > len(log):
        raise InvalidCount(number)


def kept_behind(book, log, number):
    """Return the ascending list of the places kept in the core of the beginning with so many entries."""
    _check_number(book, log, number)
    return kept_of(book, log[:number])


def most_kept(book, log):
    """Return the greatest number of entries kept in a beginning's core, and the size of the first such beginning."""
    check_settled_log(book, log)
    sizes = [len(places) for places in _walk(book, log)]
    return (max(sizes), sizes.index(max(sizes)))


def memory_rows(book, log, number):
    """Return the rows of the entries kept in the core of a beginning that lacks at most so many last entries."""
    _check_number(book, log, number)
    walk = _walk(book, log)
    found = _moments_of(walk)
    return [(place, log[place], found[place]) for place in _needed(walk, len(log), number)]


def _needed(walk, size, number):
    """Return the places kept in the core of a beginning that lacks at most so many of a number of entries."""
    return sorted({place for places in walk[max(0, size - number):size + 1] for place in places})


def core_back(rows, size, many):
    """Return the names of the rows that are the core of a beginning without so many of a number of entries."""
    if not _are_rows(rows):
        raise InvalidPlaces(rows)
    _check_count(size)
    if not is_count(many) or many > size:
        raise InvalidCount(many)
    left = size - many
    return [name for place, name, moment in rows if place < left and (moment is None or moment > left)]


def _are_rows(value):
    if not isinstance(value, list) or not all([_is_row(row) for row in value]):
        return False
    return all([one[0] < other[0] for one, other in zip(value, value[1:])])


def _is_row(value):
    if not is_tuple_of(3, value):
        return False
    return is_count(value[0]) and is_word(value[1]) and (value[2] is None or is_count(value[2]))


def memory_peak(book, log, number):
    """Return the greatest number of rows that have to be remembered of a beginning for so many last entries."""
    check_book_and_log(book, log)
    _check_count(number)
    check_settled(book.rule(), book)
    walk = _walk(book, log)
    return max([len(_needed(walk, size, number)) for size in range(len(walk))])


def without(book, log, place):
    """Return the core of a log without one of its entries."""
    _check_settled_place(book, log, place)
    return core_of(book, _less(log, place))


def _less(log, place):
    return log[:place] + log[place + 1:]


def with_entry(book, log, place, name):
    """Return the core of a log with an entry put in ahead of a place, or behind all."""
    _check_entry(book, log, place, name)
    return core_of(book, _more(log, place, name))


def _more(log, place, name):
    return log[:place] + [name] + log[place:]


def _check_entry(book, log, place, name):
    check_book_and_log(book, log)
    if not is_place(len(log) + 1, place):
        raise InvalidPlaces(place)
    if not is_name(book, name):
        raise InvalidName(name)
    check_settled(book.rule(), book)


def woken(book, log, place):
    """Return the ascending list of the struck places that are kept without an entry."""
    _check_settled_place(book, log, place)
    left = kept_of(book, _less(log, place))
    there = [other if other < place else other + 1 for other in left]
    return _first_alone(there, kept_of(book, log))


def _first_alone(one, other):
    return [place for place in one if place not in other]


def felled(book, log, place, name):
    """Return the ascending list of the kept places that are struck with an entry put in ahead of a place."""
    _check_entry(book, log, place, name)
    left = kept_of(book, _more(log, place, name))
    there = [other if other < place else other - 1 for other in left if other != place]
    return _first_alone(kept_of(book, log), there)


def idle_places(book, log):
    """Return the ascending list of the places of the entries without which a log is alike."""
    check_settled_log(book, log)
    whole = core_of(book, log)
    return [place for place, left in enumerate(_cores_without(book, log)) if picked(log, left) == whole]


def _cores_without(book, log):
    """Return, for each place of a log, the places of the core of the log without the entry there."""
    return cores_without_each(book.rule().tables, row_of(book, log))


def idle_names(book, log):
    """Return the ascending list of the names that leave a log alike when they are put behind it."""
    check_settled_log(book, log)
    whole = core_of(book, log)
    return [name for name in book.names() if core_of(book, [*whole, name]) == whole]


def needed_for(book, log, place):
    """Return the ascending list of the places of the entries without each of which a struck entry is kept."""
    _check_settled_place(book, log, place)
    if place in kept_of(book, log):
        return []
    return [other for other, left in enumerate(_cores_without(book, log)) if place in left]
