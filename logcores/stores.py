"""Finite stores: values of kinds, and what logs make in them [77] to [84]."""

from math import lcm

from logcores.alike import have_same_core
from logcores.errors import InvalidCount, InvalidInputs, InvalidLog, InvalidPairs, InvalidStore, InvalidTable
from logcores.errors import InvalidValue, InvalidWord, Unlike
from logcores.forms import is_ascending, is_count, is_list_of, is_tuple_of
from logcores.kinds import can_cover, can_stop, check_kinds, is_table
from logcores.logs import check_book, row_of
from logcores.marks import check_bounded, ring_of
from logcores.nets import check_settled_rule, is_ring, many_cores
from logcores.rows import core_places, is_core_row
from logcores.rules import Rule, check_rule
from logcores.settled import check_settled
from logcores.values import columns_of, free_holding, free_inputs, free_table, inputs_at, row_of_values, same_cores
from logcores.values import same_turns, value_behind


class Store:
    """Values, what two of them make, and the kinds that hold some of them."""

    def __init__(self, table, kinds, holding):
        if not is_table(table):
            raise InvalidTable(table)
        check_kinds(kinds)
        if not _is_holding(table, kinds, holding):
            raise InvalidStore(holding)
        words = sorted({first for first, _ in table})
        self.made = {first: {late: table[(first, late)] for late in words} for first in words}
        self.held = {kind: list(holding[kind]) for kind in kinds.words()}
        self._kinds = kinds

    def table(self):
        """Return what each two values make, the keys ascending."""
        return {(first, late): self.made[first][late] for first in self.made for late in self.made}

    def kinds(self):
        """Return the Kinds of the store."""
        return self._kinds

    def holding(self):
        """Return the ascending lists of the values of the kinds, the kinds ascending."""
        return {kind: list(self.held[kind]) for kind in self.held}

    def words(self):
        """Return the ascending list of the values."""
        return list(self.made)

    def put(self, first, second):
        """Return the value that two values make."""
        _check_value(self, first)
        _check_value(self, second)
        return self.made[first][second]

    def __eq__(self, other):
        return (isinstance(other, Store) and self.made == other.made
                and self._kinds == other._kinds and self.held == other.held)


def _is_holding(table, kinds, value):
    """Return whether any object gives each kind some values of a table so that what these make fits the kinds."""
    words = {first: True for first, _ in table}
    if not isinstance(value, dict) or len(value) != len(kinds.words()):
        return False
    if not all([kind in value and _are_values(words, value[kind]) for kind in kinds.words()]):
        return False
    held = {kind: {word: True for word in value[kind]} for kind in value}
    made = kinds.table()
    return all([table[(one, other)] in held[kind]
                for (first, second), kind in made.items() for one in value[first] for other in value[second]])


def _are_values(words, value):
    return is_list_of(words, value) and value != [] and is_ascending(value)


def _check_value(store, value):
    if value not in store.words():
        raise InvalidValue(value)


def _check_store(store):
    if not isinstance(store, Store):
        raise InvalidStore(store)


def _check_store_and_book(store, book):
    _check_store(store)
    check_book(book)
    if book.rule().kinds() != store.kinds():
        raise Unlike(book)


def _check_log(book, log):
    """Raise InvalidLog unless any object is a log of a book, not empty: only such a log has a value."""
    if not is_list_of(book.names(), log) or log == []:
        raise InvalidLog(log)


def _check_two(book, one, other):
    _check_log(book, one)
    _check_log(book, other)


def _covers(store, first, second):
    return all([store.made[one][other] == other for one in store.held[first] for other in store.held[second]])


def _stops(store, first, second):
    return all([store.made[one][other] == one for one in store.held[first] for other in store.held[second]])


def covering_pairs(store):
    """Return the ascending list of the pairs of kinds whose first one changes no value of the second one."""
    _check_store(store)
    return [(first, second) for first in store.held for second in store.held if _covers(store, first, second)]


def stopping_pairs(store):
    """Return the ascending list of the pairs of kinds whose second one changes no value of the first one."""
    _check_store(store)
    return [(first, second) for first in store.held for second in store.held if _stops(store, first, second)]


def _check_pair(store, word, pair):
    _check_store(store)
    if word not in ("cover", "stop"):
        raise InvalidWord(word)
    if not is_tuple_of(2, pair) or not is_list_of(store.held, list(pair)):
        raise InvalidPairs(pair)


def _parts(store, word, one, other):
    """Return whether two values show that the kinds that hold them do not cover, or stop."""
    return store.made[one][other] != (other if word == "cover" else one)


def parting_values(store, word, pair):
    """Return two values for which a pair of kinds does not cover, or stop, None if it does."""
    _check_pair(store, word, pair)
    first, second = pair
    for one in store.held[first]:
        for other in store.held[second]:
            if _parts(store, word, one, other):
                return (one, other)
    return None


def are_parting_values(store, word, pair, value):
    """Return whether any object is two values for which a pair of kinds does not cover, or stop."""
    _check_pair(store, word, pair)
    if not is_tuple_of(2, value) or not is_list_of(store.made, list(value)):
        return False
    if value[0] not in store.held[pair[0]] or value[1] not in store.held[pair[1]]:
        return False
    return _parts(store, word, value[0], value[1])


def fits(store, rule):
    """Return whether all pairs of a rule cover, and stop, in a store."""
    _check_store(store)
    check_rule(rule)
    if rule.kinds() != store.kinds():
        raise Unlike(rule)
    return _fits(store, rule)


def _fits(store, rule):
    return (all([_covers(store, first, second) for first, second in rule.covers()])
            and all([_stops(store, first, second) for first, second in rule.stops()]))


def rule_of(store):
    """Return the rule with as many pairs as can be that a store fits."""
    _check_store(store)
    kinds = store.kinds()
    covers = [(first, second) for first, second in can_cover(kinds) if _covers(store, first, second)]
    return Rule(kinds, covers, [(first, second) for first, second in can_stop(kinds) if _stops(store, first, second)])


def are_inputs(store, book, value):
    """Return whether any object gives each name of a book a value of its kind."""
    _check_store_and_book(store, book)
    return _are_inputs_of(store, book, value)


def _are_inputs_of(store, book, value):
    names = book.names()
    if not isinstance(value, dict) or len(value) != len(names):
        return False
    return all([name in value and value[name] in store.held[names[name]] for name in names])


def value_of(store, book, inputs, log):
    """Return what the values of the names of a log make, put together."""
    _check_store_and_book(store, book)
    if not _are_inputs_of(store, book, inputs):
        raise InvalidInputs(inputs)
    _check_log(book, log)
    return value_behind(store, inputs, log)


def same_always(store, book, one, other):
    """Return whether two logs have the same value for all inputs."""
    _check_store_and_book(store, book)
    _check_two(book, one, other)
    return _parting_of(store, book, one, other) is None


def parting_inputs(store, book, one, other):
    """Return inputs for which two logs have unlike values, None if there are none."""
    _check_store_and_book(store, book)
    _check_two(book, one, other)
    return _parting_of(store, book, one, other)


def _parting_of(store, book, one, other):
    columns = columns_of(store, book, one + other)
    early = row_of_values(store, columns, one)
    late = row_of_values(store, columns, other)
    for at, value in enumerate(early):
        if value != late[at]:
            return inputs_at(store, book, columns, at)
    return None


def are_parting(store, book, one, other, value):
    """Return whether any object is inputs for which two logs have unlike values."""
    _check_store_and_book(store, book)
    _check_two(book, one, other)
    return _part(store, book, one, other, value)


def _part(store, book, one, other, value):
    """Return whether any object is inputs that part two logs."""
    return _are_inputs_of(store, book, value) and value_behind(store, value, one) != value_behind(store, value, other)


def _check_fitting(store, book):
    _check_store_and_book(store, book)
    if not _fits(store, book.rule()):
        raise InvalidStore(store)
    check_settled(book.rule(), book)


def unparted(store, book):
    """Return two unlike cores with the same value for all inputs, None if there are none."""
    _check_fitting(store, book)
    found = ring_of(book.rule().tables)
    if found is None:
        return same_cores(store, book)
    return same_turns(store, book, found[0], found[1])


def are_unparted(store, book, value):
    """Return whether any object is two unlike cores with the same value for all inputs."""
    _check_fitting(store, book)
    if not is_tuple_of(2, value) or not all([_is_full_core(book, log) for log in value]):
        return False
    return value[0] != value[1] and _parting_of(store, book, value[0], value[1]) is None


def _is_full_core(book, value):
    """Return whether any object is a core of a book, not empty."""
    return is_list_of(book.names(), value) and value != [] and is_core_row(book.rule().tables, row_of(book, value))


def hidden(rule):
    """Return the ascending list of the hidden rows: of kinds that undo each other in every finite store."""
    check_settled_rule(rule)
    words = rule.tables.ordered
    rows = [(first, late, kind) for first in words for late in words for kind in words]
    return ([("cover", *row) for row in rows if _is_hidden_cover(rule.tables, *row)]
            + [("stop", *row) for row in rows if _is_hidden_stop(rule.tables, *row)])


def _is_hidden_cover(tables, first, late, kind):
    made = tables.made
    if made[first][kind] != kind or made[late][kind] != kind or kind not in tables.covering[made[first][late]]:
        return False
    return core_places(tables, [late, first, kind]) != [2]


def _is_hidden_stop(tables, first, late, kind):
    made = tables.made
    if made[kind][first] != kind or made[kind][late] != kind or made[first][late] not in tables.stopping[kind]:
        return False
    return core_places(tables, [kind, late, first]) != [0]


def _check_many(rule, many):
    check_rule(rule)
    if not is_count(many) or many < 1:
        raise InvalidCount(many)
    check_settled(rule, rule)


def twins(rule, many):
    """Return a ring and two numbers of turns that no store of so many values parts, None if cores are bounded."""
    _check_many(rule, many)
    found = ring_of(rule.tables)
    if found is None:
        return None
    more = 1
    for number in range(1, many + 1):
        more = lcm(more, number)
    return (found[0], found[1], many, many + more)


def are_twins(rule, many, value):
    """Return whether any object is a ring and two numbers of turns that no store of so many values parts."""
    _check_many(rule, many)
    if not is_tuple_of(4, value) or not is_count(value[2]) or not is_count(value[3]):
        return False
    ahead, turn, less, more = value
    if not is_ring(rule, (ahead, turn)) or not many <= less < more:
        return False
    return all([(more - less) % number == 0 for number in range(1, many + 1)])


def _check_bounded_book(book):
    check_settled(book.rule(), book)
    check_bounded(book.rule(), book)


def free_store(book):
    """Return the store whose values are all cores but the empty one, and the inputs that are the names' own cores."""
    check_book(book)
    _check_bounded_book(book)
    return _free_of(book)


def _free_of(book):
    return (Store(free_table(book), book.rule().kinds(), free_holding(book)), free_inputs(book))


def free_size(book):
    """Return how many values the free store has."""
    check_book(book)
    _check_bounded_book(book)
    return many_cores(book) - 1


def _check_logs(book, one, other):
    check_book(book)
    _check_two(book, one, other)


def parting_store(book, one, other):
    """Return a store that fits a book's rule, and inputs that part two logs in it, None if these are alike."""
    _check_logs(book, one, other)
    _check_bounded_book(book)
    return None if have_same_core(book, one, other) else _free_of(book)


def is_parting_store(book, one, other, value):
    """Return whether any object is a store that fits a book's rule, with inputs that part two logs in it."""
    _check_logs(book, one, other)
    if not is_tuple_of(2, value) or not isinstance(value[0], Store):
        return False
    store, inputs = value
    if store.kinds() != book.rule().kinds() or not _fits(store, book.rule()):
        return False
    return _part(store, book, one, other, inputs)
