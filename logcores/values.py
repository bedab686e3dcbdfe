"""What logs make of the values of a store, and the store that is made of all cores.

Nothing here looks at the form of what it is passed.
"""

from logcores.logs import picked, row_of
from logcores.marks import step
from logcores.rows import core_places, kind_of_row

LETTERS = "abcdefghijklmnopqrstuvwxyz"


def value_behind(store, inputs, log):
    """Return what the values of the names of a log, not empty, make."""
    value = inputs[log[0]]
    for name in log[1:]:
        value = store.made[value][inputs[name]]
    return value


def columns_of(store, book, names):
    """Return the dictionary from some names to their values, in all ways to choose these."""
    kinds = book.names()
    columns = {}
    many = 1
    for name in names:
        if name not in columns:
            values = store.held[kinds[name]]
            columns = {other: columns[other] * len(values) for other in columns}
            columns[name] = [value for value in values for _ in range(many)]
            many *= len(values)
    return columns


def row_of_values(store, columns, log, row=None):
    """Return the list of the values of a log in all ways, put behind a list of values if there is one."""
    for name in log:
        if row is None:
            row = columns[name]
        else:
            row = [store.made[value][late] for value, late in zip(row, columns[name])]
    return row


def inputs_at(store, book, columns, at):
    """Return the inputs that some columns have at a place; other names have the first value of their kind."""
    names = book.names()
    return {name: columns[name][at] if name in columns else store.held[names[name]][0] for name in names}


def same_cores(store, book):
    """Return two unlike cores with the same value for all inputs, None if there are none; cores have to be bounded."""
    columns = columns_of(store, book, list(book.names()))
    rows = {(): None}
    met = {}
    for log in all_cores(book):
        rows[log] = row_of_values(store, columns, log[-1:], rows[log[:-1]])
        row = tuple(rows[log])
        if row in met:
            return (list(met[row]), list(log))
        met[row] = log
    return None


def same_turns(store, book, ahead, turn):
    """Return two unlike cores with the same value for all inputs, by a ring of kinds.

    Of finitely many lists of values one has to come again.
    """
    names = book.names()
    of_kind = {names[name]: name for name in names}
    start = [of_kind[kind] for kind in ahead]
    round_of = [of_kind[kind] for kind in turn]
    columns = columns_of(store, book, start + round_of)
    row = row_of_values(store, columns, start + round_of)
    times = 1
    met = {}
    while tuple(row) not in met:
        met[tuple(row)] = times
        times += 1
        row = row_of_values(store, columns, round_of, row)
    return (start + round_of * met[tuple(row)], start + round_of * times)


def all_cores(book):
    """Return all cores of a book but the empty one, as tuples, ascending by size, then by names.

    The rule has to be settled, and its cores bounded.
    """
    tables = book.rule().tables
    names = book.names()
    found = []
    level = [((), 0)]
    while level:
        later = []
        for log, number in level:
            for name, kind in names.items():
                behind = step(tables, number, kind)
                if behind is not None:
                    later.append(((*log, name), behind))
        found.extend([log for log, _ in later])
        level = later
    return found


def _words_of_cores(book):
    """Return the dictionary from the cores, but the empty one, to the values of the free store."""
    return {log: _value_word(number) for number, log in enumerate(all_cores(book))}


def _value_word(number):
    """Return the word of a number: fa to fz, faa, fab and so on."""
    letters = ""
    left = number + 1
    while left > 0:
        left -= 1
        letters = LETTERS[left % 26] + letters
        left //= 26
    return "f" + letters


def free_table(book):
    """Return the table of the free store: two cores make that of both, one behind the other."""
    words = _words_of_cores(book)
    behind = {log: {name: _core_behind(book, log, name) for name in book.names()} for log in words}
    table = {}
    for one in words:
        made = {(): one}
        # The shorter ones come first, so what the beginning of the other one makes is known.
        for other in words:
            made[other] = behind[made[other[:-1]]][other[-1]]
            table[(words[one], words[other])] = words[made[other]]
    return table


def _core_behind(book, log, name):
    longer = [*log, name]
    return tuple(picked(longer, core_places(book.rule().tables, row_of(book, longer))))


def free_holding(book):
    """Return the ascending lists of the values of the kinds in the free store."""
    tables = book.rule().tables
    words = _words_of_cores(book)
    kinds = {log: kind_of_row(tables, row_of(book, log)) for log in words}
    return {kind: sorted([words[log] for log in words if kinds[log] == kind]) for kind in tables.ordered}


def free_inputs(book):
    """Return the inputs of the free store: the core of each name alone."""
    words = _words_of_cores(book)
    return {name: words[(name,)] for name in book.names()}
