"""What several test files share: objects of every kind, and a check of wrong arguments."""

from logcores.errors import CoreError, InvalidBook, InvalidKind, InvalidLog, InvalidRule, NothingToUndo
from logcores.kinds import Kinds
from logcores.logs import Book
from logcores.rules import Rule

COVERS = [("a", "s"), ("a", "z"), ("s", "s"), ("s", "z"), ("z", "s"), ("z", "z")]
STOPS = [("z", "a")]


def state_table():
    """The table of the first example of the document."""
    return {("a", "a"): "a", ("a", "s"): "s", ("a", "z"): "z", ("s", "a"): "s", ("s", "s"): "s", ("s", "z"): "z",
            ("z", "a"): "z", ("z", "s"): "s", ("z", "z"): "z"}


def state_kinds():
    return Kinds(state_table())


def few_kinds():
    """Three kinds of which two unlike ones make c."""
    return Kinds({(x, y): x if x == y else "c" for x in "abc" for y in "abc"})


def last_kinds(letters):
    """Kinds of which two make the second one: all pairs can cover."""
    return Kinds({(x, y): y for x in letters for y in letters})


def store_rule():
    """A settled rule: its cores are not bounded."""
    return Rule(state_kinds(), list(COVERS), list(STOPS))


def store_book():
    """A book of the store's rule with two names of one kind."""
    return Book(store_rule(), {"end": "z", "more": "a", "set": "s", "up": "a"})


def pages_rule():
    """A settled rule: the number of its cores doubles."""
    pages = Kinds({(x, y): x if x == y else "w" for x in "lmw" for y in "lmw"})
    return Rule(pages, [("l", "w"), ("m", "m")], [])


def short_rule():
    """A settled rule whose cores have at most two entries."""
    return Rule(few_kinds(), [("a", "a"), ("a", "c"), ("b", "b"), ("b", "c"), ("c", "c")], [])


def short_book():
    """A book of the short rule with two names of one kind."""
    return Book(short_rule(), {"p": "a", "q": "b", "r": "c", "s": "a"})


def wild_rule():
    """A rule that is not settled: it fails first at a row of three entries."""
    return Rule(few_kinds(), [("a", "a"), ("b", "b"), ("c", "c")], [])


def wild_book():
    """A book of a rule that is not settled, with the names of the short book."""
    return Book(wild_rule(), {"p": "a", "q": "b", "r": "c", "s": "a"})


def ring_book():
    """A book of a settled rule whose cores are not bounded, with the names of the short book."""
    return Book(Rule(last_kinds("abc"), [], [("a", "a")]), {"p": "a", "q": "b", "r": "c", "s": "a"})


def tall_rule():
    """A settled rule whose cores have at most four entries: no other rule of three kinds has longer ones."""
    table = {("a", "a"): "a", ("a", "b"): "a", ("a", "c"): "a", ("b", "a"): "a", ("b", "b"): "a", ("b", "c"): "b",
             ("c", "a"): "a", ("c", "b"): "b", ("c", "c"): "c"}
    return Rule(Kinds(table), [], [("a", "a"), ("a", "b"), ("a", "c"), ("c", "c")])


def tall_book():
    """A book of the tall rule, with the names of the short book."""
    return Book(tall_rule(), {"p": "a", "q": "b", "r": "c", "s": "a"})


def deep_book():
    """A book of a rule with cores of at most four entries, with places that no single kind strikes alone."""
    covers = [("a", "a"), ("b", "a"), ("c", "a"), ("c", "c")]
    return Book(Rule(tall_rule().kinds(), covers, []), {"p": "a", "q": "b", "r": "c"})


def square_rule():
    """A settled rule: the number of its cores grows like a square."""
    return Rule(tall_rule().kinds(), [], [("a", "b"), ("a", "c")])


def late_rule():
    """A settled rule by which three entries c in a row stand, and four do not."""
    table = {(x, y): "b" if x + y == "cc" else "a" for x in "abc" for y in "abc"}
    return Rule(Kinds(table), [], [("a", "c")])


def trap_rule():
    """A settled rule with cores behind which not much more can come, and others that go on for ever."""
    table = {(x, y): "c" if x + y == "cc" else "a" for x in "abc" for y in "abc"}
    return Rule(Kinds(table), [], [("a", "a"), ("a", "b"), ("a", "c")])


def free_rule():
    """A settled rule without pairs: all logs are cores."""
    return Rule(Kinds({(x, y): x for x in "ab" for y in "ab"}), [], [])


def nested(depth):
    value = []
    for level in range(depth):
        value = [value] if level % 2 else (value,)
    return value


def any_objects():
    """Objects of every kind that an argument may be, none of them a table, a row, pairs or a map."""
    return [
        None, True, False, 0, 1, -1, 10 ** 30, "", "A", "a b", "a\n", "\t", "~", "aa", "cover", "abcdefghi",
        [], (), [[]], ((),), [()], {}, [None], (None,), [True], (True, False), [1, 0], ["A"], ["a", None], ["a", 1],
        {"a": None}, {None: "a"}, {True: False}, {1: 0}, {(): []}, {("a",): {}}, {("a", "a"): 1}, {"aa": "a"},
        nested(40), {"a": nested(38)}, last_kinds("xy"), Rule(last_kinds("xy"), [], []), InvalidKind("a"),
        NothingToUndo(), CoreError(), [last_kinds("xy")], {"a": Rule(last_kinds("xy"), [], [])},
        Book(Rule(last_kinds("xy"), [], []), {"x": "x", "y": "y"}), ("cover", 0, 1, 1), ("cover", 0, 1, 2, 3),
        ["cover", 0, 1, 2], ("Cover", 0, 1, 2), (True, 0, 1, 2), ("stop", False, True, 2), ("stop", -1, 0, 1),
    ]


def no_rules():
    return [value for value in any_objects() if not isinstance(value, Rule)] + [
        state_kinds(), (COVERS, STOPS), [state_kinds(), [], []], store_book(), [store_rule()]]


def no_books():
    return [value for value in any_objects() if not isinstance(value, Book)] + [
        store_rule(), state_kinds(), [store_book()], (store_rule(), {"x": "a"}), store_book().names()]


def no_logs():
    """What is no log of the store's book and none of the short one's."""
    return [value for value in any_objects() if value != []] + [
        ("up",), ["up", "Up"], ["p", "P"], ["p", "up"], [["up"]], ["up", None], ["p", True], ["a"], "up", "p",
        {"up": True}, {"p": "q"}, ["up", ("up",)], [("p",)], [""]]


def no_counts():
    return [value for value in any_objects() if value is True or value is False or not isinstance(value, int)] + [
        -1, -10 ** 30, "0", "1", (1,), [1]]


def no_rows():
    """What is no row of kinds of the few kinds, nor of the state kinds."""
    return [value for value in any_objects() if value != []] + [
        ("a",), "a", ["a", "q"], ["a", "A"], [["a"]], ["a", None], ["a", True], {"a": "a"}, ["aa"], [("a",)]]


def raised(call, *given, **named):
    """The error that a call raises, which has to be one of the package."""
    try:
        call(*given, **named)
    except CoreError as error:
        return error
    raise AssertionError(f"nothing was raised by {call} with {given} {named}")


def check_told(test, error, kind, value):
    test.assertIs(type(error), kind)
    test.assertIs(error.value, value)


def check_wrong(test, call, good, wrong, last=None):
    """Check the errors of a call.

    `good` is a dictionary from the parameters, in their order, to arguments
    that are right; `wrong` one from parameters to an error and arguments for
    which it is raised, also where all later arguments are wrong, too; a
    parameter called `value` that judges any object has none. `last` is the
    error, with what it holds, that is raised behind all others for `good`.
    """
    if last is None:
        call(*good.values())
        call(**good)
    else:
        check_told(test, raised(call, *good.values()), *last)
        check_told(test, raised(call, **good), *last)
    names = list(good)
    test.assertEqual(sorted(wrong), sorted(name for name in names if name != "value"), "each parameter has its error")
    for at, name in enumerate(names):
        kind, values = wrong.get(name, (None, []))
        for value in values:
            given = {**good, name: value}
            check_told(test, raised(call, *given.values()), kind, value)
            check_told(test, raised(call, **given), kind, value)
            for later in names[at + 1:]:
                given[later] = wrong[later][1][0] if later in wrong else None
            check_told(test, raised(call, *given.values()), kind, value)
            check_told(test, raised(call, **given), kind, value)


def wrong_of_logs(*names):
    """The wrong arguments for a book and for some logs of it."""
    return {"book": (InvalidBook, no_books()), **{name: (InvalidLog, no_logs()) for name in names}}


def wrong_of_rule():
    return {"rule": (InvalidRule, no_rules())}


def check_judge(test, call, right, wrong):
    """Check a call that judges any object, with `call` given the object alone."""
    # To Python True is equal to 1: only as they are written are they told apart.
    told = [repr(value) for value in right]
    for value in right:
        test.assertIs(call(value), True, value)
    for value in any_objects() + wrong:
        if repr(value) not in told:
            test.assertIs(call(value), False, value)


def bent(value):
    """Objects that are a value changed in one place: none of them is the value itself."""
    found = [[value], (value,), None]
    if isinstance(value, (list, tuple)):
        found.extend([list(value) if isinstance(value, tuple) else tuple(value), {"a": value}])
        for at, part in enumerate(value):
            for other in bent(part):
                found.append(_with_part(value, at, other))
            found.append(_with_part(value, at, part, part))
    if isinstance(value, int) and not isinstance(value, bool):
        found.extend([str(value), -value - 1] + ([value == 1] if value in (0, 1) else []))
    if isinstance(value, str):
        found.extend([value + value, value.upper(), list(value), ""])
    return found


def _with_part(value, at, *parts):
    items = list(value)
    items[at:at + 1] = parts
    return items if isinstance(value, list) else tuple(items)
