"""Kinds, and what rows of them make [10] to [13]."""

from logcores.errors import InvalidKind, InvalidKinds, InvalidLog, InvalidMap, InvalidTable
from logcores.forms import is_list_of, is_map, is_word


class Kinds:
    """Words of which any two, put together, make one of them, however three are bracketed."""

    def __init__(self, table):
        if not is_table(table):
            raise InvalidTable(table)
        self._table = {pair: table[pair] for pair in sorted(table)}
        self._words = _words_of(table)

    def table(self):
        """Return what each two kinds make, the keys ascending."""
        return {pair: self._table[pair] for pair in self._table}

    def words(self):
        """Return the ascending list of the kinds."""
        return list(self._words)

    def put(self, first, second):
        """Return the kind that two kinds make."""
        check_kind(self, first)
        check_kind(self, second)
        return self._table[(first, second)]

    def __eq__(self, other):
        return isinstance(other, Kinds) and self._table == other._table


def is_table(value):
    """Return whether any object is the table of some Kinds."""
    if not isinstance(value, dict) or len(value) == 0:
        return False
    return _is_complete(value) and _is_associative(value)


def _is_complete(table):
    # That all keys are pairs of words has to be known before their words are collected.
    if not all([_is_pair_of_words(pair) for pair in table]):
        return False
    words = _words_of(table)
    # So many keys as there are pairs, and each pair among them: no key leads out of the words.
    if len(table) != len(words) * len(words):
        return False
    return all([(first, second) in table and table[(first, second)] in words for first in words for second in words])


def _is_pair_of_words(value):
    return isinstance(value, tuple) and len(value) == 2 and is_word(value[0]) and is_word(value[1])


def _words_of(table):
    return sorted({pair[0] for pair in table})


def _is_associative(table):
    words = _words_of(table)
    for first, second in table:
        both = table[(first, second)]
        if not all([table[(both, third)] == table[(first, table[(second, third)])] for third in words]):
            return False
    return True


def check_kinds(kinds):
    """Raise InvalidKinds unless any object is a Kinds."""
    if not isinstance(kinds, Kinds):
        raise InvalidKinds(kinds)


def check_kind(kinds, kind):
    """Raise InvalidKind unless any object is one of the kinds."""
    if kind not in kinds.words():
        raise InvalidKind(kind)


def check_row(kinds, row):
    """Raise InvalidLog unless any object is a list, not empty, of kinds."""
    if not is_row(kinds, row):
        raise InvalidLog(row)


def is_row(kinds, value):
    """Return whether any object is a list, not empty, of kinds."""
    return is_list_of(kinds.words(), value) and len(value) > 0


def check_map(kinds, sent):
    """Raise InvalidMap unless any object sends just the kinds to unlike words."""
    if not is_map(kinds.words(), sent):
        raise InvalidMap(sent)


def put_all(kinds, row):
    """Return the kind that a row of kinds makes."""
    check_kinds(kinds)
    check_row(kinds, row)
    made = row[0]
    for kind in row[1:]:
        made = kinds.put(made, kind)
    return made


def opposite(kinds):
    """Return the Kinds in which two kinds make what they make here the other way round."""
    check_kinds(kinds)
    table = kinds.table()
    return Kinds({(second, first): table[(first, second)] for first, second in table})


def renamed(kinds, sent):
    """Return the Kinds with its kinds exchanged for unlike words."""
    check_kinds(kinds)
    check_map(kinds, sent)
    table = kinds.table()
    return Kinds({(sent[first], sent[second]): sent[table[(first, second)]] for first, second in table})


def can_cover(kinds):
    """Return the ascending list of the pairs that make their second kind."""
    check_kinds(kinds)
    table = kinds.table()
    return [(first, second) for first, second in table if table[(first, second)] == second]


def can_stop(kinds):
    """Return the ascending list of the pairs that make their first kind."""
    check_kinds(kinds)
    table = kinds.table()
    return [(first, second) for first, second in table if table[(first, second)] == first]
