"""Books, their logs, and strikes [20] to [25]."""

from logcores.errors import InvalidBook, InvalidCount, InvalidLog, InvalidMap, InvalidNames, InvalidPlaces
from logcores.errors import InvalidRoad, InvalidStrike
from logcores.forms import are_places, is_block, is_count, is_list_of, is_map, is_strike, is_string_in, is_word
from logcores.rows import fits, kind_of_row, places_behind, row_strikes, taken_out
from logcores.rules import check_rule


class Book:
    """A rule, and names of entries with their kinds."""

    def __init__(self, rule, names):
        check_rule(rule)
        if not _are_names(rule.kinds().words(), names):
            raise InvalidNames(names)
        self._rule = rule
        self._names = {name: names[name] for name in sorted(names)}

    def rule(self):
        """Return the rule of the book."""
        return self._rule

    def names(self):
        """Return the kinds of the names, the names ascending."""
        return dict(self._names)

    def __eq__(self, other):
        return isinstance(other, Book) and self._rule == other._rule and self._names == other._names


def _are_names(kinds, value):
    if not isinstance(value, dict) or not all([is_word(name) for name in value]):
        return False
    given = list(value.values())
    return all([kind in kinds for kind in given]) and all([kind in given for kind in kinds])


def check_book(book):
    """Raise InvalidBook unless any object is a book."""
    if not isinstance(book, Book):
        raise InvalidBook(book)


def check_log(book, log):
    """Raise InvalidLog unless any object is a log of a book."""
    if not is_list_of(book.names(), log):
        raise InvalidLog(log)


def check_book_and_log(book, log):
    """Raise InvalidBook or InvalidLog unless two objects are a book and a log of it."""
    check_book(book)
    check_log(book, log)


def check_places(log, places):
    """Raise InvalidPlaces unless any object is an ascending list of places of a log."""
    if not are_places(len(log), places):
        raise InvalidPlaces(places)


def row_of(book, log):
    """Return the list of the kinds of the entries of a log."""
    names = book.names()
    return [names[name] for name in log]


def picked(log, places):
    """Return the entries at some places of a log."""
    return [log[place] for place in places]


def is_log(book, value):
    """Return whether any object is a log of a book."""
    check_book(book)
    return is_list_of(book.names(), value)


def is_name(book, value):
    """Return whether any object is a name of a book."""
    return is_string_in(book.names(), value)


def kinds_of(book, log):
    """Return the list of the kinds of the entries of a log."""
    check_book_and_log(book, log)
    return row_of(book, log)


def kind_of(book, log, block):
    """Return the kind of a block of a log."""
    check_book_and_log(book, log)
    if not is_block(len(log), block):
        raise InvalidPlaces(block)
    first, end = block
    return kind_of_row(book.rule().tables, row_of(book, log[first:end]))


def log_without(book, log, places):
    """Return a log without the entries at some places."""
    check_book_and_log(book, log)
    check_places(log, places)
    return [name for place, name in enumerate(log) if place not in places]


def log_of(book, log, places):
    """Return the log of the entries at just some places."""
    check_book_and_log(book, log)
    check_places(log, places)
    return picked(log, places)


def strikes(book, log):
    """Return the ascending list of the strikes that fit a log."""
    check_book_and_log(book, log)
    return row_strikes(book.rule().tables, row_of(book, log))


def log_behind(book, log, strike):
    """Return what a strike that fits a log leaves of it."""
    check_book_and_log(book, log)
    if not fits(book.rule().tables, row_of(book, log), strike):
        raise InvalidStrike(strike)
    first, end = taken_out(strike)
    return log[:first] + log[end:]


def taken(strike):
    """Return the tuple of the first and of the end of what a strike takes out."""
    _check_strike(strike)
    return taken_out(strike)


def _check_strike(strike):
    if not is_strike(strike):
        raise InvalidStrike(strike)


def after(book, log, strikes):
    """Return the log that strikes, one behind the other, leave, and the places of the log that are left."""
    check_book_and_log(book, log)
    places = places_behind(book.rule().tables, row_of(book, log), strikes)
    if places is None:
        raise InvalidRoad(strikes)
    return (picked(log, places), places)


def by_kinds(book):
    """Return the book whose names are the kinds, each of its own kind."""
    check_book(book)
    return Book(book.rule(), {kind: kind for kind in book.rule().kinds().words()})


def with_names(book, sent):
    """Return the book with its names exchanged for unlike names."""
    check_book(book)
    _check_sent(book, sent)
    return Book(book.rule(), {sent[name]: kind for name, kind in book.names().items()})


def _check_sent(book, sent):
    if not is_map(list(book.names()), sent):
        raise InvalidMap(sent)


def log_sent(book, log, sent):
    """Return a log with its names exchanged for unlike names."""
    check_book_and_log(book, log)
    _check_sent(book, sent)
    return [sent[name] for name in log]


def mirrored_strike(strike, size):
    """Return the strike that takes the same entries of a log of some size from behind in the mirrored book."""
    _check_strike(strike)
    word, first, cut, end = strike
    if not is_count(size) or size < end:
        raise InvalidCount(size)
    return ("stop" if word == "cover" else "cover", size - end, size - cut, size - first)
