"""Kinds, and what rows of them make [10] to [13]."""

from logcores.errors import InvalidKind, InvalidKinds, InvalidLog, InvalidMap, InvalidTable
from logcores.forms import is_list_of, is_map, is_string_in, is_word


class Kinds:
    """Words of which any two, put together, make one of them, however three are bracketed."""

    def __init__(self, table):
        if not is_table(table):
            raise InvalidTable(table)
        self._table = {pair: table[pair] for pair in sorted(table)}
        self._words = _words_of(table)

    def table(self):
        """Return what each two kinds make, the keys ascending."""
        return {pair: self._table[pair] for pair in self._table}

    def words(self):
        """Return the ascending list of the kinds."""
        return list(self._words)

    def put(self, first, second):
        """Return the kind that two kinds make."""
        check_kind(self, first)
        check_kind(self, second)
        return self._table[(first, second)]

    def __eq__(self, other):
        return isinstance(other, Kinds) and self._table == other._table


def is_table(value):
    """Return whether any object is the table of some Kinds."""
    if not isinstance(value, dict) or len(value) == 0:
        return False
    return _is_complete(value) and _is_associative(value)


def _is_complete(table):
    # That all keys are pairs of strings has to be known before these are collected.
    if not all([_is_pair_of_strings(pair) for pair in table]):
        return False
    words = {first: True for first, _ in table}
    # So many keys as there are pairs, and each pair among them: no key leads out of the words.
    if not all([is_word(word) for word in words]) or len(table) != len(words) * len(words):
        return False
    return all([(first, late) in table and is_string_in(words, table[(first, late)])
                for first in words for late in words])


def _is_pair_of_strings(value):
    return isinstance(value, tuple) and len(value) == 2 and isinstance(value[0], str) and isinstance(value[1], str)


def _words_of(table):
    return sorted({first for first, _ in table})


def _is_associative(table):
    words = _words_of(table)
    made = {first: {late: table[(first, late)] for late in words} for first in words}
    # If three make one with each maker between the others, they do so with all that the makers make.
    for word in _makers(made):
        behind = made[word]
        for early in made.values():
            both = made[early[word]]
            if not all([both[late] == early[behind[late]] for late in words]):
                return False
    return True


def _makers(made):
    """Return some words of which, put together, all words are made."""
    by_others = {word: True for first, row in made.items() for late, word in row.items() if word not in (first, late)}
    found = []
    known = {}
    for word in [word for word in made if word not in by_others] + list(by_others):
        if word not in known:
            found.append(word)
            _add_made(made, known, word)
    return found


def _add_made(made, known, word):
    """Add a word, and all that it makes with those that are known, to these."""
    waiting = [word]
    while waiting:
        now = waiting.pop()
        if now not in known:
            known[now] = True
            waiting.extend([made[now][other] for other in known])
            waiting.extend([made[other][now] for other in known])


def check_kinds(kinds):
    """Raise InvalidKinds unless any object is a Kinds."""
    if not isinstance(kinds, Kinds):
        raise InvalidKinds(kinds)


def check_kind(kinds, kind):
    """Raise InvalidKind unless any object is one of the kinds."""
    if kind not in kinds.words():
        raise InvalidKind(kind)


def check_row(kinds, row):
    """Raise InvalidLog unless any object is a list, not empty, of kinds."""
    if not is_row(kinds, row):
        raise InvalidLog(row)


def is_row(kinds, value):
    """Return whether any object is a list, not empty, of kinds."""
    return is_list_of(kinds.words(), value) and len(value) > 0


def check_map(kinds, sent):
    """Raise InvalidMap unless any object sends just the kinds to unlike words."""
    if not is_map(kinds.words(), sent):
        raise InvalidMap(sent)


def put_all(kinds, row):
    """Return the kind that a row of kinds makes."""
    check_kinds(kinds)
    check_row(kinds, row)
    made = row[0]
    for kind in row[1:]:
        made = kinds.put(made, kind)
    return made


def opposite(kinds):
    """Return the Kinds in which two kinds make what they make here the other way round."""
    check_kinds(kinds)
    table = kinds.table()
    return Kinds({(second, first): table[(first, second)] for first, second in table})


def renamed(kinds, sent):
    """Return the Kinds with its kinds exchanged for unlike words."""
    check_kinds(kinds)
    check_map(kinds, sent)
    table = kinds.table()
    return Kinds({(sent[first], sent[second]): sent[table[(first, second)]] for first, second in table})


def can_cover(kinds):
    """Return the ascending list of the pairs that make their second kind."""
    check_kinds(kinds)
    table = kinds.table()
    return [(first, second) for first, second in table if table[(first, second)] == second]


def can_stop(kinds):
    """Return the ascending list of the pairs that make their first kind."""
    check_kinds(kinds)
    table = kinds.table()
    return [(first, second) for first, second in table if table[(first, second)] == first]
