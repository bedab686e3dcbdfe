"""Entries of a log that may be left out so that what is left is alike with all of it.

Nothing here looks at the form of what it is passed; the book's rule has to be
settled. Of what has been done of a log only its core matters for what comes.
"""

from logcores.cores import core_of


def all_choices(book, log, free):
    """Return all lists of places, some of the free ones, without which a log is alike, in no special order."""
    known = {}
    found = {(): [[]]}
    for place, name in enumerate(log):
        behind = {}
        for now, lots in found.items():
            behind.setdefault(core_behind(book, now, name, known), []).extend(lots)
            if place in free:
                behind.setdefault(now, []).extend([[*lot, place] for lot in lots])
        found = behind
    return found[tuple(core_of(book, log))]


def core_behind(book, now, name, known):
    """Return the core, as a tuple, of a core with a name behind it; what is known is kept in a dictionary."""
    if (now, name) not in known:
        known[(now, name)] = tuple(core_of(book, [*now, name]))
    return known[(now, name)]


def least_ones(lists):
    """Return the ascending list of those of some lists of places within which no other one of them lies."""
    found = []
    for one in sorted(lists, key=len):
        if not any([lies_within(less, one) for less in found]):
            found.append(one)
    return sorted(found)


def lies_within(less, more):
    """Return whether all places of one list are places of another one."""
    return all([place in more for place in less])
