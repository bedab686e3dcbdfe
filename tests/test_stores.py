import itertools
import random
import unittest

from logcores.errors import (Boundless, InvalidBook, InvalidCount, InvalidInputs, InvalidKinds, InvalidLog, InvalidPairs,
                             InvalidRule, InvalidStore, InvalidTable, InvalidValue, InvalidWord, Unlike, Unsettled)
from logcores.kinds import Kinds, can_cover, can_stop
from logcores.logs import Book
from logcores.nets import is_ring, longest
from logcores.rules import Rule
from logcores.settled import is_settled
from logcores.stores import (Store, are_inputs, are_parting, are_parting_values, are_twins, are_unparted, covering_pairs, fits,
                             free_size, free_store, hidden, is_parting_store, parting_inputs, parting_store, parting_values,
                             rule_of, same_always, stopping_pairs, twins, unparted, value_of)
from tests.helper import (any_objects, bent, check_judge, check_told, check_wrong, deep_book, few_kinds, last_kinds, no_books,
                          no_counts, no_rules, raised, ring_book, short_book, short_rule, state_kinds, store_rule, tall_book,
                          wild_book, wild_rule)
from tests.oracle import all_rules, all_tables, core_names, core_of, logs_of, made_by, parts_of, rows, strikes_on


def few_store():
    """The store of the document's first example: the last value is left."""
    table = {(x, y): y for x in "uv" for y in "uv"}
    return Store(table, few_kinds(), {kind: ["u", "v"] for kind in "abc"})


def lone_store():
    """A store in which kinds hold unlike values, one of them none, and one value is of two kinds."""
    table = {(x, y): max(x, y) for x in "pqrs" for y in "pqrs"}
    return Store(table, few_kinds(), {"a": ["p", "r"], "b": ["q", "r"], "c": ["q", "r"]})


def book_of(rule, names=None):
    return Book(rule, {kind: kind for kind in rule.kinds().words()} if names is None else names)


def drawn_stores(number, words="ab", values="uvw"):
    """Stores of drawn tables, in which kinds hold what some drawn values of kinds make."""
    draw = random.Random(number)
    tables = {size: list(all_tables(values[:size])) for size in (1, 2, 3)}
    kinds = [Kinds(table) for table in all_tables(words)]
    for _ in range(number):
        table, held = draw.choice(tables[draw.choice((1, 2, 3, 3))]), draw.choice(kinds)
        there = sorted({first for first, _ in table})
        pairs = {(kind, draw.choice(there)) for kind in held.words()} | {(draw.choice(held.words()), draw.choice(there))}
        while True:
            more = pairs | {(held.put(a, b), table[x, y]) for a, x in pairs for b, y in pairs}
            if more == pairs:
                break
            pairs = more
        yield Store(table, held, {kind: sorted(value for other, value in pairs if other == kind) for kind in held.words()})


def covers_in(store, pair):
    """Whether xy = y for all values of both kinds."""
    return all(store.put(x, y) == y for x in store.holding()[pair[0]] for y in store.holding()[pair[1]])


def stops_in(store, pair):
    return all(store.put(x, y) == x for x in store.holding()[pair[0]] for y in store.holding()[pair[1]])


def all_inputs(store, book):
    names, holding = book.names(), store.holding()
    return [dict(zip(names, values)) for values in itertools.product(*[holding[names[name]] for name in names])]


def value_in(store, inputs, log):
    made = inputs[log[0]]
    for name in log[1:]:
        made = store.put(made, inputs[name])
    return made


def always_same(store, book, one, other):
    return all(value_in(store, inputs, one) == value_in(store, inputs, other) for inputs in all_inputs(store, book))


def no_stores():
    return [value for value in any_objects() if not isinstance(value, Store)] + [
        few_kinds(), [few_store()], few_store().table(), (few_store().table(), few_kinds(), few_store().holding())]


def unlike_books():
    """Books whose Kinds are not those of the few kinds."""
    return [Book(Rule(last_kinds("abc"), [], []), {"p": "a", "q": "b", "r": "c"}), Book(store_rule(), {"a": "a", "s": "s", "z": "z"})]


def check_wrong_books(test, call, good, wrong):
    """Check a call that has a store and a book: that their Kinds are equal is looked at in the book's turn."""
    check_wrong(test, call, good, {"store": (InvalidStore, no_stores()), "book": (InvalidBook, no_books()), **wrong})
    check_wrong(test, call, good, {"store": (InvalidStore, no_stores()), "book": (Unlike, unlike_books()), **wrong})


def no_full_logs():
    return [value for value in any_objects()] + [("p",), ["p", "x"], [["p"]], "p", ["p", None], [True], {"p": 1}, ["P"], ["a"]]


class TheStore(unittest.TestCase):
    def test_what_it_tells(self):
        table = {("y", "y"): "y", ("y", "x"): "y", ("x", "y"): "y", ("x", "x"): "x"}
        kinds = Kinds({("b", "b"): "b", ("a", "b"): "b", ("b", "a"): "b", ("a", "a"): "a"})
        store = Store(table=table, kinds=kinds, holding={"b": ["y"], "a": ["x", "y"]})
        self.assertEqual(list(store.table().items()), sorted(table.items()))
        self.assertEqual(list(store.holding().items()), [("a", ["x", "y"]), ("b", ["y"])])
        self.assertEqual((store.kinds(), store.words(), store.put(first="x", second="y")), (kinds, ["x", "y"], "y"))

    def test_what_is_passed_and_returned_may_be_changed(self):
        table, holding = {("u", "u"): "u"}, {"a": ["u"]}
        store = Store(table, Kinds({("a", "a"): "a"}), holding)
        table.clear()
        holding["a"].append("v")
        store.table().clear()
        store.holding()["a"].clear()
        store.words().clear()
        self.assertEqual((store.table(), store.holding(), store.words()), ({("u", "u"): "u"}, {"a": ["u"]}, ["u"]))

    def test_equal_ones(self):
        stores = [few_store(), lone_store(), Store(few_store().table(), last_kinds("abc"), few_store().holding()),
                  Store({(x, y): x for x in "uv" for y in "uv"}, few_kinds(), few_store().holding()),
                  Store(few_store().table(), few_kinds(), {"a": ["u"], "b": ["u", "v"], "c": ["u", "v"]})]
        for one, other in itertools.product(range(5), range(5)):
            self.assertIs(stores[one] == stores[other], one == other)
            self.assertIs(stores[one] != stores[other], one != other)
        again = Store(dict(reversed(list(few_store().table().items()))), few_kinds(), dict(reversed(list(few_store().holding().items()))))
        self.assertEqual(again, few_store())
        for other in any_objects() + [few_store().table(), few_kinds()]:
            self.assertFalse(few_store() == other)

    def test_wrong_values(self):
        for at, names in enumerate((("first", "second"), ("second", "first"))):
            for value in any_objects() + ["w", "U", ["u"], ("u",)]:
                given = {names[0]: value, names[1]: "u"}
                check_told(self, raised(few_store().put, **given), InvalidValue, value)
                check_told(self, raised(few_store().put, given["first"], given["second"]), InvalidValue, value)
        check_told(self, raised(few_store().put, "w", None), InvalidValue, "w")

    def test_wrong_arguments(self):
        table, holding = lone_store().table(), lone_store().holding()
        tables = [value for value in any_objects()] + [
            {**table, ("p", "p"): "t"}, {**table, ("p", "q"): None}, {**table, ("p", "q"): ["p"]}, {**table, ("p", "t"): "p"}, {**table, "p": "p"},
            {pair: table[pair] for pair in table if pair != ("p", "p")}, list(table.items()),
            {**table, ("p", "p"): "s"}, {("P", "P"): "P"}, {("", ""): ""}, {("a" * 9, "a" * 9): "a" * 9}]
        kinds = [value for value in any_objects() if not isinstance(value, Kinds)] + [few_kinds().table(), [few_kinds()], few_store()]
        holdings = [value for value in any_objects()] + [
            {**holding, "a": []}, {**holding, "a": ["r", "p"]}, {**holding, "a": ["p", "p"]}, {**holding, "a": ("p", "r")}, {**holding, "a": "p"},
            {**holding, "a": ["p", "t"]}, {**holding, "a": [None]}, {**holding, "a": [["p"]]}, {**holding, "d": ["p"]}, {**holding, 1: ["p"]},
            {"a": ["p", "r"], "b": ["q", "r"]}, {"a": ["p"], "b": ["q"], "d": ["q"]}, list(holding.items()), {**holding, "c": ["q"]},
            {**holding, "c": ["r"]}, {**holding, "a": ["p", "s"]}, {**holding, "a": {"p": "r"}}, {**holding, "a": True}]
        check_wrong(self, Store, {"table": table, "kinds": few_kinds(), "holding": holding}, {
            "table": (InvalidTable, tables), "kinds": (InvalidKinds, kinds), "holding": (InvalidStore, holdings)})

    def test_tables_of_many_values_are_looked_at_whole(self):
        words = ["v" + x + y for x in "abcdef" for y in "abcdef"]
        table = {(one, other): one[:2] + other[2] for one in words for other in words}
        kinds, holding = Kinds({("a", "a"): "a"}), {"a": words}
        self.assertEqual(Store(table, kinds, holding).words(), words)
        for pair in itertools.islice(table, 0, None, 97):
            for made in (words[0], words[-1]):
                wrong = {**table, pair: made}
                if made != table[pair]:
                    check_told(self, raised(Store, wrong, kinds, holding), InvalidTable, wrong)

    def test_all_tables_of_three_values(self):
        good = [tuple(sorted(table.items())) for table in all_tables("abc")]
        pairs, draw = list(itertools.product("abc", repeat=2)), random.Random(5)
        for _ in range(4000):
            table = {pair: draw.choice("abc") for pair in pairs}
            if draw.random() < 0.5:
                table = {**dict(draw.choice(good)), draw.choice(pairs): draw.choice("abc")}
            holding = {"x": ["a", "b", "c"]}
            if tuple(sorted(table.items())) in good:
                self.assertEqual(Store(table, last_kinds("x"), holding).table(), table)
            else:
                check_told(self, raised(Store, table, last_kinds("x"), holding), InvalidTable, table)


class Pairs(unittest.TestCase):
    def test_by_all_values(self):
        seen = set()
        for store in [few_store(), lone_store(), *drawn_stores(150)]:
            kinds = store.kinds()
            pairs = sorted(kinds.table())
            self.assertEqual(covering_pairs(store), [pair for pair in pairs if covers_in(store, pair)])
            self.assertEqual(stopping_pairs(store=store), [pair for pair in pairs if stops_in(store, pair)])
            for word, good in (("cover", covers_in), ("stop", stops_in)):
                for pair in pairs:
                    self.check_parting(store, word, pair, good(store, pair))
            rule = rule_of(store=store)
            self.assertEqual(rule, Rule(kinds, [pair for pair in can_cover(kinds) if covers_in(store, pair)],
                                        [pair for pair in can_stop(kinds) if stops_in(store, pair)]))
            self.assertIs(fits(store, rule), True)
            seen.add(set(covering_pairs(store)) <= set(can_cover(kinds)))
        # Pairs that cover in a store perhaps can't be in a rule.
        self.assertEqual(seen, {True, False})

    def check_parting(self, store, word, pair, good):
        holding, words = store.holding(), store.words()
        parts = [(x, y) for x in holding[pair[0]] for y in holding[pair[1]] if store.put(x, y) != (y if word == "cover" else x)]
        told = parting_values(store, word, pair)
        self.assertIs(told is None, good)
        self.assertEqual(parts == [], good)
        for value in itertools.product(words, words):
            self.assertIs(are_parting_values(store, word, pair, value), value in parts)
        if told is not None:
            self.assertIn(told, parts)

    def test_fits_by_all_rules(self):
        for store in list(drawn_stores(60)):
            covers, stops = rule_of(store).covers(), rule_of(store).stops()
            for rule in all_rules("ab"):
                if rule.kinds() == store.kinds():
                    good = set(rule.covers()) <= set(covers) and set(rule.stops()) <= set(stops)
                    self.assertIs(fits(store=store, rule=rule), good)

    def test_it_judges_any_object(self):
        store = lone_store()
        right = [("p", "q"), ("p", "r"), ("p", "q")][:2]
        wrong = bent(("p", "q")) + [("r", "q"), ("q", "q"), ("p", "p"), ("p", "s"), ["p", "q"], ("p",), ("p", "q", "r"), "pq", ("s", "s")]
        check_judge(self, lambda value: are_parting_values(store, "stop", ("a", "b"), value), right, wrong)
        self.assertIs(are_parting_values(store=store, word="cover", pair=("b", "a"), value=("q", "p")), True)
        self.assertEqual(parting_values(store=store, word="cover", pair=("b", "a")), ("q", "p"))

    def test_wrong_arguments(self):
        for call in (covering_pairs, stopping_pairs, rule_of):
            check_wrong(self, call, {"store": few_store()}, {"store": (InvalidStore, no_stores())})
        words = [value for value in any_objects() if value != "cover"] + [("cover",), "stops", "Stop", ["stop"]]
        pairs = any_objects() + [("a",), ("a", "d"), ("d", "a"), ["a", "b"], "ab", ("a", "b", "c"), ("A", "b"), (["a"], "b"), ("a", ("b",)), (0, 1)]
        for call, more in ((parting_values, {}), (are_parting_values, {"value": None})):
            for pair in (("a", "b"), ("c", "a")):
                check_wrong(self, call, {"store": few_store(), "word": "cover", "pair": pair, **more}, {
                    "store": (InvalidStore, no_stores()), "word": (InvalidWord, words), "pair": (InvalidPairs, pairs)})
        for wrong in ((InvalidRule, no_rules()), (Unlike, [store_rule(), Rule(last_kinds("abc"), [], [])])):
            check_wrong(self, fits, {"store": few_store(), "rule": short_rule()}, {"store": (InvalidStore, no_stores()), "rule": wrong})
        self.assertIs(fits(few_store(), wild_rule()), True)


class Inputs(unittest.TestCase):
    def test_values_of_all_logs_for_all_inputs(self):
        for store in [lone_store(), *drawn_stores(40)]:
            kinds = store.kinds().words()
            book = Book(rule_of(store), {"x": kinds[0], "y": kinds[-1], "z": kinds[1]} if len(kinds) < 3 else dict(zip("xyz", kinds)))
            logs = logs_of(book, 3, 1)
            every = all_inputs(store, book)
            for inputs in every:
                self.assertIs(are_inputs(store, book, inputs), True)
                for log in logs:
                    self.assertEqual(value_of(store, book, inputs, log), value_in(store, inputs, log))
            for one, other in list(itertools.product(logs, logs))[::11]:
                good = always_same(store, book, one, other)
                self.assertIs(same_always(store, book, one, other), good)
                told = parting_inputs(store, book, one, other)
                self.assertIs(told is None, good)
                if told is not None:
                    self.assertIn(told, every)
                    self.assertEqual(list(told), sorted(told))
                for inputs in every[::5] + ([told] if told else []):
                    parted = value_in(store, inputs, one) != value_in(store, inputs, other)
                    self.assertIs(are_parting(store, book, one, other, inputs), parted)
                if is_settled(book.rule()) and core_names(book, one) == core_names(book, other):
                    self.assertIs(good, True)

    def book(self):
        return Book(short_rule(), {"p": "a", "q": "b", "r": "c", "s": "a"})

    def test_they_judge_any_object(self):
        store, book = lone_store(), self.book()
        right = [{"p": "p", "q": "r", "r": "q", "s": "r"}, {"s": "r", "r": "q", "q": "q", "p": "r"}]
        wrong = [{**right[0], name: value} for name in "pqrs" for value in ("t", "s", None, True, ["p"], ("p",), "P", 0)]
        wrong.extend([{name: right[0][name] for name in "pqrs" if name != other} for other in "pqrs"])
        wrong.extend([{**right[0], other: "p"} for other in ("t", None, 0, True, ("p",))] + [list(right[0].items()), [right[0]], {**right[0], "q": "p"}])
        check_judge(self, lambda value: are_inputs(store, book, value), right, wrong)
        parts = [inputs for inputs in all_inputs(store, book) if value_in(store, inputs, ["p", "q"]) != value_in(store, inputs, ["q", "r"])]
        others = [inputs for inputs in all_inputs(store, book) if inputs not in parts]
        self.assertGreater(min(len(parts), len(others)), 0)
        check_judge(self, lambda value: are_parting(store, book, ["p", "q"], ["q", "r"], value), parts, others + wrong)
        self.assertIs(are_inputs(store=store, book=book, value=right[0]), True)
        self.assertIs(are_parting(store=store, book=book, one=["p", "q"], other=["q", "r"], value=parts[0]), True)

    def test_twelve_entries_of_many_inputs(self):
        table = {(x, y): x for x in "abcde" for y in "abcde"}
        store = Store(table, last_kinds("k"), {"k": list("abcde")})
        book = Book(Rule(last_kinds("k"), [], []), {name: "k" for name in "wxyz"})
        log = list("wxyzwxyzwxyz")
        self.assertIs(same_always(store=store, book=book, one=log, other=["w"]), True)
        told = parting_inputs(store=store, book=book, one=log, other=log[::-1])
        self.assertNotEqual(value_of(store=store, book=book, inputs=told, log=log), value_of(store, book, told, log[::-1]))

    def test_wrong_arguments(self):
        store, book = lone_store(), self.book()
        logs = (InvalidLog, no_full_logs())
        check_wrong_books(self, are_inputs, {"store": store, "book": book, "value": None}, {})
        inputs = {"p": "p", "q": "r", "r": "q", "s": "r"}
        wrong = any_objects() + [{**inputs, "p": "q"}, {**inputs, "t": "p"}, {"p": "p"}, list(inputs.items()), {**inputs, "p": None}]
        check_wrong_books(self, value_of, {"store": store, "book": book, "inputs": inputs, "log": ["p", "q"]}, {
            "inputs": (InvalidInputs, wrong), "log": logs})
        for call, more in ((same_always, {}), (parting_inputs, {}), (are_parting, {"value": None})):
            check_wrong_books(self, call, {"store": store, "book": book, "one": ["p"], "other": ["q", "r"], **more}, {"one": logs, "other": logs})


class Unparted(unittest.TestCase):
    def all_unparted(self, store, book, longest_one):
        """All tuples of two unlike cores, of up to so many entries, with the same value for all inputs."""
        cores = [log for log in logs_of(book, longest_one, 1) if core_names(book, log) == log]
        return [(one, other) for one, other in itertools.permutations(cores, 2) if always_same(store, book, one, other)]

    def test_by_all_cores(self):
        seen = set()
        for store in [few_store(), *drawn_stores(120, "ab"), *drawn_stores(12, "abc")]:
            rule = rule_of(store)
            rules = [rule] + ([Rule(rule.kinds(), rule.covers(), [])] if rule.stops() else [])
            for rule in [rule for rule in rules if is_settled(rule)]:
                book = book_of(rule)
                bound = longest(rule)
                told = unparted(store, book)
                if told is None:
                    self.assertIsNotNone(bound)
                    self.assertEqual(self.all_unparted(store, book, bound), [])
                else:
                    one, other = told
                    self.assertEqual((type(told), type(one), type(other)), (tuple, list, list))
                    self.assertTrue(one != other and [] not in told)
                    self.assertTrue(core_of(rule, one) == list(range(len(one))) and core_of(rule, other) == list(range(len(other))))
                    self.assertTrue(always_same(store, book, one, other))
                    self.assertIs(are_unparted(store, book, told), True)
                    self.assertIs(are_unparted(store, book, (other, one)), True)
                seen.add((bound is None, told is None))
        self.assertEqual(seen, {(True, False), (False, True), (False, False)})

    def test_all_short_logs_are_judged(self):
        for store in [few_store(), *list(drawn_stores(30))[::3]]:
            if is_settled(rule_of(store)):
                book = book_of(rule_of(store))
                good = self.all_unparted(store, book, 2)
                for one, other in itertools.product(logs_of(book, 2), repeat=2):
                    self.assertIs(are_unparted(store, book, (one, other)), (one, other) in good)

    def test_it_judges_any_object(self):
        # In the store of one value no two logs are parted.
        store = Store({("u", "u"): "u"}, few_kinds(), {kind: ["u"] for kind in "abc"})
        book = Book(short_rule(), {"p": "a", "q": "b", "r": "c"})
        right = (["p", "q"], ["r"])
        wrong = bent(right) + [(["p"], ["p"]), (["p", "p"], ["r"]), (["r"], ["p", "r"]), ([], ["r"]), (["r"], []), (["p"], ["x"]), right + (["q"],),
                               list(right), (("p",), ["r"]), ("p", ["r"])]
        wrong = [value for value in wrong if value not in ((["p", "q", "q"], ["r"]),) and not self.is_right(book, value)]
        check_judge(self, lambda value: are_unparted(store, book, value), [right, right[::-1]], wrong)
        self.assertIs(are_unparted(store=store, book=book, value=unparted(store=store, book=book)), True)

    def is_right(self, book, value):
        if not isinstance(value, tuple) or len(value) != 2 or not all(isinstance(log, list) and log for log in value):
            return False
        if not all(isinstance(name, str) and name in book.names() for log in value for name in log):
            return False
        return value[0] != value[1] and all(core_names(book, log) == log for log in value)

    def test_wrong_arguments(self):
        book, unsettled_book = Book(short_rule(), {"p": "a", "q": "b", "r": "c"}), wild_book()
        for call, more in ((unparted, {}), (are_unparted, {"value": None})):
            check_wrong_books(self, call, {"store": few_store(), "book": book, **more}, {})
            # That the store fits is looked at behind the book and behind Unlike, but ahead of Unsettled.
            for store in (lone_store(), Store({(x, y): x for x in "uv" for y in "uv"}, few_kinds(), few_store().holding())):
                check_told(self, raised(call, store, book, *more.values()), InvalidStore, store)
                check_told(self, raised(call, store, unsettled_book, *more.values()), InvalidStore, store)
                check_told(self, raised(call, store, None, *more.values()), InvalidBook, None)
                other = unlike_books()[0]
                check_told(self, raised(call, store=store, book=other, **more), Unlike, other)
            check_told(self, raised(call, few_store(), unsettled_book, *more.values()), Unsettled, unsettled_book)


class Hidden(unittest.TestCase):
    def hidden_in(self, rule):
        kinds, words = rule.kinds(), rule.kinds().words()
        found = []
        for p, q, z in itertools.product(words, repeat=3):
            both = kinds.put(p, q)
            if kinds.put(p, z) == z == kinds.put(q, z) and (both, z) in rule.covers() and core_of(rule, [q, p, z]) != [2]:
                found.append(("cover", p, q, z))
            if kinds.put(z, p) == z == kinds.put(z, q) and (z, both) in rule.stops() and core_of(rule, [z, q, p]) != [0]:
                found.append(("stop", p, q, z))
        return sorted(found)

    def deep_rule(self):
        deep = Kinds({(x, y): "a" if x + y == "xy" else "z" for x in "axyz" for y in "axyz"})
        return Rule(deep, [("a", "z")], [])

    def test_by_all_kinds(self):
        for rule in [*all_rules("ab"), short_rule(), store_rule(), self.deep_rule()]:
            if is_settled(rule):
                self.assertEqual(hidden(rule), self.hidden_in(rule))

    def test_of_both_words(self):
        rule = self.deep_rule()
        kinds = Kinds({(second, first): made for (first, second), made in rule.kinds().table().items()})
        self.assertEqual(hidden(rule=rule), [("cover", "x", "y", "z")])
        self.assertEqual(hidden(Rule(kinds, [], [("z", "a")])), [("stop", "y", "x", "z")])
        self.assertEqual(self.hidden_in(Rule(kinds, [], [("z", "a")])), [("stop", "y", "x", "z")])

    def test_wrong_arguments(self):
        rule = wild_rule()
        check_wrong(self, hidden, {"rule": short_rule()}, {"rule": (InvalidRule, no_rules())})
        check_told(self, raised(hidden, rule), Unsettled, rule)


class Twins(unittest.TestCase):
    def rules(self):
        return [rule for rule in all_rules("ab") if is_settled(rule)] + [store_rule(), short_rule(), ring_book().rule()]

    def test_they_are_found_exactly_if_cores_are_not_bounded(self):
        seen = set()
        for rule in self.rules():
            for many in (1, 2, 3, 5):
                told = twins(rule, many)
                self.assertIs(told is None, longest(rule) is not None)
                if told is not None:
                    ahead, turn, less, more = told
                    self.assertTrue(turn and is_ring(rule, (ahead, turn)))
                    self.assertTrue(less >= many and more > less)
                    self.assertEqual([(more - less) % number for number in range(1, many + 1)], [0] * many)
                    self.assertIs(are_twins(rule, many, told), True)
                seen.add(told is None)
        self.assertEqual(seen, {True, False})

    def test_no_store_of_so_few_values_parts_them(self):
        for store in drawn_stores(60):
            rule = rule_of(store)
            if is_settled(rule) and longest(rule) is None:
                ahead, turn, less, more = twins(rule, 3)
                one, other = ahead + turn * less, ahead + turn * more
                self.assertTrue(strikes_on(rule, one) == [] and one != other)
                self.assertIs(same_always(store, book_of(rule), one, other), True)

    def test_sixty_values(self):
        told = twins(rule=store_rule(), many=60)
        self.assertIs(are_twins(rule=store_rule(), many=60, value=told), True)
        self.assertIs(are_twins(store_rule(), 60, (*told[:3], told[3] + 1)), False)
        self.assertIs(are_twins(store_rule(), 3, (["s"], ["a"], 10 ** 29, 10 ** 29 + 6)), True)

    def test_it_judges_any_object(self):
        rule, right = store_rule(), (["s"], ["a"], 2, 4)
        wrong = [value for value in bent(right) if not self.are_right(rule, value)]
        wrong.extend([(["s"], ["a"], 2, 3), (["s"], ["a"], 1, 3), (["s"], ["a"], 4, 2), (["s"], ["a"], 2, 2), (["z"], ["a"], 2, 4), (["s"], [], 2, 4),
                      (["s"], ["s"], 2, 4), (["s"], ["q"], 2, 4), (("s",), ["a"], 2, 4), list(right), right[:3], right + (2,), ([], ["s"], 2, 4),
                      (["s"], ["a"], True, 4), (["s"], ["a"], 2, None), (["s"], ["a"], -2, 4), (None, ["a"], 2, 4)])
        others = [([], ["a"], 2, 4), (["s", "a"], ["a", "a"], 3, 11), (["s"], ["a"], 2, 10 ** 29)]
        check_judge(self, lambda value: are_twins(rule, 2, value), [right, *others], wrong)
        check_judge(self, lambda value: are_twins(rule, 1, value), [right, (["s"], ["a"], 1, 2)], [(["s"], ["a"], False, True), (["s"], ["a"], 0, 1)])
        check_judge(self, lambda value: are_twins(short_rule(), 2, value), [], [right, (["a"], ["b"], 2, 4)])

    def are_right(self, rule, value):
        if not isinstance(value, tuple) or len(value) != 4 or type(value[2]) is not int or type(value[3]) is not int:
            return False
        return value[2] >= 2 and value[3] > value[2] and (value[3] - value[2]) % 2 == 0 and is_ring(rule, value[:2])

    def test_wrong_arguments(self):
        rule = wild_rule()
        for call, more in ((twins, {}), (are_twins, {"value": None})):
            for many in (1, 5):
                wrong = {"rule": (InvalidRule, no_rules()), "many": (InvalidCount, no_counts() + [0])}
                check_wrong(self, call, {"rule": store_rule(), "many": many, **more}, wrong)
                check_wrong(self, call, {"rule": rule, "many": many, **more}, wrong, (Unsettled, rule))


def value_words():
    """The words of a free store, one behind the other."""
    letters = "abcdefghijklmnopqrstuvwxyz"
    yield from ("f" + one for one in letters)
    yield from ("f" + one + other for one in letters for other in letters)


class FreeStores(unittest.TestCase):
    def books(self):
        rules = [rule for rule in all_rules("ab") if is_settled(rule) and longest(rule) is not None]
        for rule in rules[::2]:
            yield book_of(rule)
            yield Book(rule, {"p": "a", "q": "b", "r": "a", "s": "b"})
        yield from (short_book(), tall_book(), deep_book(), Book(tall_book().rule(), {"p": "a", "q": "b", "r": "c", "s": "c"}))

    def cores_of(self, book):
        found = [log for log in logs_of(book, longest(book.rule()), 1) if core_names(book, log) == log]
        return sorted(found, key=lambda log: (len(log), log))

    def test_by_all_cores(self):
        for book in self.books():
            cores = self.cores_of(book)
            words = {tuple(core): word for core, word in zip(cores, value_words())}
            store, inputs = free_store(book)
            self.assertEqual(free_size(book), len(cores))
            self.assertEqual(store.words(), sorted(words.values()))
            self.assertEqual(store.kinds(), book.rule().kinds())
            for one, other in list(itertools.product(cores, cores))[::1 if len(cores) < 20 else 7]:
                self.assertEqual(store.put(words[tuple(one)], words[tuple(other)]), words[tuple(core_names(book, one + other))])
            holding = {kind: sorted(words[core] for core in words if made_by(book.rule().kinds(), [book.names()[name] for name in core]) == kind)
                       for kind in book.rule().kinds().words()}
            self.assertEqual(store.holding(), holding)
            self.assertEqual(inputs, {name: words[(name,)] for name in book.names()})
            self.assertIs(fits(store, book.rule()), True)
            self.assertIs(are_inputs(store, book, inputs), True)
            if min(list(book.names().values()).count(kind) for kind in holding) > 1:
                self.assertEqual(rule_of(store), book.rule())

    def test_more_than_twenty_six_values(self):
        book = Book(tall_book().rule(), {"p": "a", "q": "b", "r": "c", "s": "c"})
        cores = self.cores_of(book)
        self.assertGreater(len(cores), 26)
        store, inputs = free_store(book=book)
        self.assertEqual(free_size(book=book), len(cores))
        for at, word in ((0, "fa"), (25, "fz"), (26, "faa"), (27, "fab")):
            self.assertEqual(value_of(store, book, inputs, cores[at]), word)

    def test_two_logs_have_the_same_value_exactly_if_they_are_alike(self):
        book = short_book()
        store, inputs = free_store(book)
        logs = logs_of(book, 3, 1)
        for one, other in list(itertools.product(logs, logs))[::13]:
            alike = core_names(book, one) == core_names(book, other)
            self.assertIs(value_of(store, book, inputs, one) == value_of(store, book, inputs, other), alike)
            told = parting_store(book, one, other)
            self.assertIs(told is None, alike)
            if told is not None:
                self.assertIs(is_parting_store(book, one, other, told), True)
                self.assertIs(fits(told[0], book.rule()), True)

    def test_it_judges_any_object(self):
        book, one, other = Book(short_rule(), {"p": "a", "q": "b", "r": "c"}), ["p", "q"], ["p"]
        store, inputs = few_store(), {"p": "u", "q": "v", "r": "u"}
        right = [(store, inputs), free_store(book), parting_store(book=book, one=one, other=other)]
        same = {"p": "u", "q": "u", "r": "v"}
        left = Store({(x, y): x for x in "uv" for y in "uv"}, few_kinds(), store.holding())
        another = Store(store.table(), last_kinds("abc"), store.holding())
        wrong = [(store, same), (left, inputs), (another, inputs), [store, inputs], (store,), (inputs, store), (store, inputs, None), (store, None),
                 (None, inputs), (store, {**inputs, "p": "w"}), (store, {"p": "u", "q": "v"}), (store, {**inputs, "s": "u"}), (few_kinds(), inputs), store]
        for value in wrong + any_objects():
            self.assertIs(is_parting_store(book, one, other, value), False)
        for value in right:
            self.assertIs(is_parting_store(book, one, other, value), True)
        self.assertIs(is_parting_store(book=book, one=one, other=other, value=right[0]), True)
        self.assertIs(is_parting_store(book, one, ["q", "p", "q"], right[1]), False)

    def test_whatever_the_rule_is(self):
        for rule in (wild_rule(), Rule(few_kinds(), [], [])):
            book = Book(rule, {"p": "a", "q": "b", "r": "c"})
            self.assertIs(is_parting_store(book, ["p", "q"], ["q", "p"], (few_store(), {"p": "u", "q": "v", "r": "u"})), True)
            self.assertIs(is_parting_store(book, ["p", "q"], ["q"], (few_store(), {"p": "u", "q": "v", "r": "u"})), False)

    def test_wrong_arguments(self):
        wild, ring, books = wild_book(), ring_book(), (InvalidBook, no_books())
        for call in (free_store, free_size):
            check_wrong(self, call, {"book": short_book()}, {"book": books})
            check_told(self, raised(call, wild), Unsettled, wild)
            check_told(self, raised(call, book=ring), Boundless, ring)
        logs = (InvalidLog, no_full_logs())
        for book, last in ((short_book(), None), (wild, (Unsettled, wild)), (ring, (Boundless, ring))):
            for other in (["p"], ["q", "r"]):
                good = {"book": book, "one": ["p"], "other": other}
                check_wrong(self, parting_store, good, {"book": books, "one": logs, "other": logs}, last)
                check_wrong(self, is_parting_store, {**good, "value": None}, {"book": books, "one": logs, "other": logs})


class TheExamples(unittest.TestCase):
    def test_those_of_the_document(self):
        few = Kinds(dict([((x, y), x if x == y else "c") for x in "abc" for y in "abc"]))
        rule = Rule(few, [("a", "a"), ("a", "c"), ("b", "b"), ("b", "c"), ("c", "c")], [])
        book = Book(rule, {"p": "a", "q": "b", "r": "c"})
        last = Store(dict([((x, y), y) for x in "uv" for y in "uv"]), few, {"a": ["u", "v"], "b": ["u", "v"], "c": ["u", "v"]})
        self.assertEqual(
            [fits(last, rule), stopping_pairs(last), parting_values(last, "cover", ("a", "b")), value_of(last, book, {"p": "u", "q": "v", "r": "u"}, ["p", "q"])],
            [True, [], None, 'v'])
        self.assertEqual(
            [same_always(last, book, ["p", "q"], ["q"]), same_always(last, book, ["p", "q"], ["q", "p"]), free_size(book)],
            [True, False, 7])
        store, inputs = free_store(book)
        self.assertEqual(
            [value_of(store, book, inputs, ["p", "p", "q"]) == value_of(store, book, inputs, ["p", "q"]), value_of(store, book, inputs, ["p", "q"]) == value_of(store, book, inputs, ["q", "p"])],
            [True, False])
        deep = Kinds(dict([((x, y), "a" if x + y == "xy" else "z") for x in "axyz" for y in "axyz"]))
        book = Book(Rule(deep, [("a", "z")], []), {"p": "x", "q": "y", "r": "z", "s": "a"})
        sent = {"e": "i", "i": "i", "t": "t", "u": "t", "v": "t"}
        turn = Store(dict([((x, y), "e" if x + y == "vu" else "i" if sent[x] == sent[y] else "t") for x in sent for y in sent]), deep, {"a": ["e"], "x": ["v"], "y": ["u"], "z": ["i", "t"]})
        self.assertEqual(
            [same_always(turn, book, ["q", "p", "r"], ["r"]), are_unparted(turn, book, (["q", "p", "r"], ["r"])), are_unparted(turn, book, (["s", "r"], ["r"])), hidden(book.rule())],
            [True, True, False, [('cover', 'x', 'y', 'z')]])
        self.assertEqual(
            [are_twins(book.rule(), 2, (["x"] * 4, ["x"], 2, 4)), are_twins(book.rule(), 2, (["x"] * 4, ["x"], 2, 3)), are_twins(book.rule(), 3, twins(book.rule(), 3)), are_unparted(turn, book, unparted(turn, book))],
            [True, False, True, True])


if __name__ == "__main__":
    unittest.main()
