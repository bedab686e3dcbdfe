"""Kinds that a rule does not tell from each other, put together [85] to [88]."""

from logcores.errors import InvalidFolding
from logcores.forms import is_ascending, is_count, is_list_of, is_string_in, is_tuple_of
from logcores.kinds import Kinds, check_kind
from logcores.logs import Book, check_book
from logcores.rows import kind_of_row
from logcores.rules import Rule, check_rule


def is_folding(rule, value):
    """Return whether any object is a folding of a rule, its lists and the list of them ascending."""
    check_rule(rule)
    return _is_parting(rule.tables.ordered, value) and _folds(rule.tables, value)


def _is_parting(words, value):
    """Return whether any object is an ascending list of ascending lists, not empty, that have each word once."""
    if not isinstance(value, list) or not all([is_list_of(words, part) and part != [] for part in value]):
        return False
    if not is_ascending(value) or not all([is_ascending(part) for part in value]):
        return False
    return sorted([kind for part in value for kind in part]) == words


def _leading(lists):
    """Return the dictionary from the kinds to the least ones of their lists."""
    return {kind: part[0] for part in lists for kind in part}


def _folds(tables, lists):
    """Return whether the kinds of each of some lists make alike ones and are in the same pairs."""
    lead = _leading(lists)
    for first in tables.ordered:
        for late in tables.ordered:
            early, second = lead[first], lead[late]
            if lead[tables.made[first][late]] != lead[tables.made[early][second]]:
                return False
            if (late in tables.covering[first]) != (second in tables.covering[early]):
                return False
            if (late in tables.stopping[first]) != (second in tables.stopping[early]):
                return False
    return True


def all_foldings(rule):
    """Return the ascending list of all foldings of a rule."""
    check_rule(rule)
    return _all_of(rule.tables)


def _all_of(tables):
    found = [[]]
    for kind in tables.ordered:
        found = [longer for lists in found for longer in _with_kind(lists, kind)]
    return sorted([lists for lists in found if _folds(tables, lists)])


def _with_kind(lists, kind):
    """Return the partings that have a kind more, in one of some lists or in one of its own."""
    more = [lists[:at] + [lists[at] + [kind]] + lists[at + 1:] for at in range(len(lists))]
    return more + [[*lists, [kind]]]


def coarsest(rule):
    """Return the folding in whose lists those of each other one lie."""
    check_rule(rule)
    # Each other one has more lists.
    return [list(part) for part in min(_all_of(rule.tables), key=len)]


def telling(rule, one, other):
    """Return what tells two kinds of a rule from each other, None if one list of the coarsest folding has both."""
    _check_two(rule, one, other)
    words = rule.tables.ordered
    # Longer rows ahead and behind make what some kind makes, too.
    around = [[]] + [[kind] for kind in words]
    for ahead in around:
        for behind in around:
            for word, place, beside in _sides(words):
                if _tells(rule.tables, one, other, (word, ahead, behind, place, beside)):
                    return (word, list(ahead), list(behind), place, beside)
    return None


def _sides(words):
    return [(word, place, beside) for word in ("cover", "stop") for place in (0, 1) for beside in words]


def _check_two(rule, one, other):
    check_rule(rule)
    check_kind(rule.kinds(), one)
    check_kind(rule.kinds(), other)


def is_telling(rule, one, other, value):
    """Return whether any object tells two kinds of a rule from each other."""
    _check_two(rule, one, other)
    words = rule.tables.ordered
    if not is_tuple_of(5, value) or value[0] not in ("cover", "stop"):
        return False
    if not is_list_of(words, value[1]) or not is_list_of(words, value[2]):
        return False
    if not is_count(value[3]) or value[3] > 1 or not is_string_in(words, value[4]):
        return False
    return _tells(rule.tables, one, other, value)


def _tells(tables, one, other, told):
    """Return whether just one of two kinds, put where it is told, makes a pair of a rule."""
    return _is_pair(tables, one, told) != _is_pair(tables, other, told)


def _is_pair(tables, kind, told):
    word, ahead, behind, place, beside = told
    made = kind_of_row(tables, [*ahead, kind, *behind])
    pairs = tables.covering if word == "cover" else tables.stopping
    return beside in pairs[made] if place == 0 else made in pairs[beside]


def _check_lists(rule, lists):
    if not _is_parting(rule.tables.ordered, lists) or not _folds(rule.tables, lists):
        raise InvalidFolding(lists)


def folded_rule(rule, lists):
    """Return the rule of the lists of a folding, each named by its least kind."""
    check_rule(rule)
    _check_lists(rule, lists)
    return _folded(rule, lists)


def _folded(rule, lists):
    lead = _leading(lists)
    leaders = [part[0] for part in lists]
    made = rule.tables.made
    kinds = Kinds({(first, late): lead[made[first][late]] for first in leaders for late in leaders})
    return Rule(kinds, _pairs_of(leaders, rule.covers()), _pairs_of(leaders, rule.stops()))


def _pairs_of(leaders, pairs):
    return [(first, late) for first, late in pairs if first in leaders and late in leaders]


def folded_book(book, lists):
    """Return the book of the folded rule, each name of the kind that names the list of its own one."""
    check_book(book)
    _check_lists(book.rule(), lists)
    lead = _leading(lists)
    return Book(_folded(book.rule(), lists), {name: lead[kind] for name, kind in book.names().items()})
