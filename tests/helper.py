"""What several test files share: objects of every kind, and a check of wrong arguments."""

from logcores.errors import CoreError, InvalidKind, NothingToUndo
from logcores.kinds import Kinds
from logcores.rules import Rule


def state_table():
    """The table of the first example of the document."""
    return {("a", "a"): "a", ("a", "s"): "s", ("a", "z"): "z", ("s", "a"): "s", ("s", "s"): "s", ("s", "z"): "z",
            ("z", "a"): "z", ("z", "s"): "s", ("z", "z"): "z"}


def state_kinds():
    return Kinds(state_table())


def few_kinds():
    """Three kinds of which two unlike ones make c."""
    return Kinds({(x, y): x if x == y else "c" for x in "abc" for y in "abc"})


def last_kinds(letters):
    """Kinds of which two make the second one: all pairs can cover."""
    return Kinds({(x, y): y for x in letters for y in letters})


def nested(depth):
    value = []
    for level in range(depth):
        value = [value] if level % 2 else (value,)
    return value


def any_objects():
    """Objects of every kind that an argument may be, none of them a table, a row, pairs or a map."""
    return [
        None, True, False, 0, 1, -1, 10 ** 30, "", "A", "a b", "a\n", "\t", "~", "aa", "cover", "abcdefghi",
        [], (), [[]], ((),), [()], {}, [None], (None,), [True], (True, False), [1, 0], ["A"], ["a", None], ["a", 1],
        {"a": None}, {None: "a"}, {True: False}, {1: 0}, {(): []}, {("a",): {}}, {("a", "a"): 1}, {"aa": "a"},
        nested(40), {"a": nested(38)}, last_kinds("xy"), Rule(last_kinds("xy"), [], []), InvalidKind("a"),
        NothingToUndo(), CoreError(), [last_kinds("xy")], {"a": Rule(last_kinds("xy"), [], [])},
    ]


def raised(call, *given, **named):
    """The error that a call raises, which has to be one of the package."""
    try:
        call(*given, **named)
    except CoreError as error:
        return error
    raise AssertionError(f"nothing was raised by {call} with {given} {named}")


def check_told(test, error, kind, value):
    test.assertIs(type(error), kind)
    test.assertIs(error.value, value)


def check_wrong(test, call, good, wrong):
    """Check the errors of a call.

    `good` is a dictionary from the parameters, in their order, to arguments
    that are right; `wrong` one from parameters to an error and arguments for
    which it is raised, also where all later arguments are wrong, too.
    """
    call(*good.values())
    call(**good)
    names = list(good)
    test.assertEqual(sorted(wrong), sorted(names), "each parameter has its error")
    for at, name in enumerate(names):
        kind, values = wrong[name]
        for value in values:
            given = {**good, name: value}
            check_told(test, raised(call, *given.values()), kind, value)
            check_told(test, raised(call, **given), kind, value)
            for later in names[at + 1:]:
                given[later] = wrong[later][1][0]
            check_told(test, raised(call, *given.values()), kind, value)
            check_told(test, raised(call, **given), kind, value)
