import unittest

from logcores.errors import Boundless, InvalidCount, InvalidFuture, InvalidKind, InvalidPlaces, Unsettled
from logcores.futures import (future_for, is_future_for, is_future_striking, is_why_kept, kept_for_ever, lasting_kinds,
                              least_future, left_in, striking_row, struck_in, struck_sets, struck_soon, why_kept)
from logcores.kinds import Kinds
from logcores.logs import Book
from logcores.rules import Rule
from logcores.settled import is_settled
from tests.helper import (any_objects, bent, check_judge, check_told, check_wrong, deep_book, no_counts, no_rows,
                          pages_rule, raised, ring_book, short_book, short_rule, square_rule, store_book, store_rule,
                          tall_book, tall_rule, wild_book, wild_rule, wrong_of_logs, wrong_of_rule)
from tests.oracle import all_rules, core_of, logs_of, out_of, parts_of, rows, strikes_on


def first_book():
    """A book of a rule by which the first entry stays for ever."""
    firsts = Kinds({(x, y): x for x in "ab" for y in "ab"})
    return Book(Rule(firsts, [], [(x, y) for x in "ab" for y in "ab"]), {"p": "a", "q": "b", "s": "a"})


def null_book():
    """A book of a rule by which one kind takes all behind it: some kept entries stay for ever, some do not."""
    return Book(Rule(Kinds({(x, y): "a" for x in "ab" for y in "ab"}), [("a", "a"), ("b", "a")], []), {"p": "a", "q": "b"})


def bounded_books():
    return [short_book(), tall_book(), deep_book(), first_book(), null_book()]


def all_books():
    kind_books = [Book(rule, {kind: kind for kind in "ab"}) for rule in all_rules("ab") if is_settled(rule)]
    return kind_books[::4] + bounded_books() + [store_book(), ring_book(), Book(square_rule(), {"p": "a", "q": "b", "r": "c"})]


def kinds_in(book, log):
    return [book.names()[name] for name in log]


def kept_in(book, log):
    return core_of(book.rule(), kinds_in(book, log))


def struck_by(book, log, future):
    left = core_of(book.rule(), kinds_in(book, log) + future)
    return [place for place in kept_in(book, log) if place not in left]


def futures(book, longest):
    """All futures of up to so many kinds, the least first."""
    return rows(book.rule().kinds(), longest)[1:]


def no_futures():
    return [[]] + no_rows()


class StruckAndLeft(unittest.TestCase):
    def test_by_all_short_futures(self):
        for book in all_books():
            for log in logs_of(book, 2) + logs_of(book, 4, 4)[::17]:
                for future in futures(book, 3):
                    struck = struck_by(book, log, future)
                    self.assertEqual(struck_in(book, log, future), struck)
                    self.assertEqual(left_in(book, log, future), [place for place in kept_in(book, log) if place not in struck])

    def test_entries_that_are_struck_already_are_in_neither(self):
        self.assertEqual(struck_in(book=store_book(), log=["up", "set", "up"], future=["s"]), [1, 2])
        self.assertEqual(left_in(book=store_book(), log=["up", "set", "up"], future=["a"]), [1, 2])
        self.assertEqual((struck_in(store_book(), [], ["a"]), left_in(store_book(), [], ["a"])), ([], []))

    def test_cores_need_not_be_bounded_and_futures_may_be_long(self):
        self.assertEqual(struck_in(store_book(), ["set", "up"], ["a"] * 12), [])
        self.assertEqual(struck_in(store_book(), ["set", "up"], ["a"] * 12 + ["z"]), [0, 1])

    def test_wrong_arguments(self):
        for call in (struck_in, left_in):
            wrong = {**wrong_of_logs("log"), "future": (InvalidFuture, no_futures() + [["p"]])}
            check_wrong(self, call, {"book": short_book(), "log": ["p"], "future": ["a", "c"]}, wrong)
            book = wild_book()
            check_wrong(self, call, {"book": book, "log": ["p"], "future": ["a", "c"]}, wrong, (Unsettled, book))
            check_wrong(self, call, {"book": ring_book(), "log": ["p"], "future": ["a", "c"]}, wrong)


class LeastFutures(unittest.TestCase):
    def test_the_fewest_and_of_these_the_first(self):
        for book in bounded_books():
            for log in logs_of(book, 3):
                for place in kept_in(book, log):
                    found = [future for future in futures(book, 4) if place in struck_by(book, log, future)]
                    self.assertEqual(least_future(book, log, place), found[0] if found else None)

    def test_which_futures_strike(self):
        for book in bounded_books():
            for log in logs_of(book, 2):
                for place in kept_in(book, log):
                    for future in futures(book, 3):
                        good = place in struck_by(book, log, future)
                        self.assertIs(is_future_striking(book, log, place, future), good)
        self.assertIs(is_future_striking(book=short_book(), log=["r", "p"], place=0, value=["a"] * 300 + ["b"]), True)
        self.assertIs(is_future_striking(short_book(), ["r", "p"], 0, ["a"] * 300), False)

    def test_it_judges_any_object(self):
        wrong = [value for value in bent(["b"]) if value != ["b", "b"]] + no_futures() + [["a"], ["a", "a"], ["q"], ("b",)]
        check_judge(self, lambda value: is_future_striking(short_book(), ["r", "p"], 0, value), [["b"], ["b", "b"], ["a", "c"]], wrong)

    def test_wrong_arguments(self):
        self.check_places(least_future, {})
        self.check_places(is_future_striking, {"value": None})
        self.check_places(why_kept, {})
        self.check_places(is_why_kept, {"value": None})

    def check_places(self, call, more):
        places = [value for value in any_objects() if value is True or value is False or value not in range(3)]
        places.extend([3, -1, 10 ** 29, "0", [1], None])
        log = ["p", "q", "p"]
        for place in (0, 1, 2):
            for book, error in ((wild_book(), Unsettled), (ring_book(), Boundless)):
                check_wrong(self, call, {"book": book, "log": log, "place": place, **more},
                            {**wrong_of_logs("log"), "place": (InvalidPlaces, places)}, (error, book))
        # By the short rule the last two of p, q, p are kept.
        check_wrong(self, call, {"book": short_book(), "log": log, "place": 1, **more},
                    {**wrong_of_logs("log"), "place": (InvalidPlaces, places + [0])})
        check_told(self, raised(call, short_book(), [], 0, *more.values()), InvalidPlaces, 0)


class ForEver(unittest.TestCase):
    def standings(self, book, log, place):
        """All standings that come from a log's own one; None if the entry is struck on the way."""
        row, places = kinds_in(book, log), kept_in(book, log)
        waiting = [(tuple(row[at] for at in places), places.index(place))]
        found = set()
        while waiting:
            core, at = waiting.pop()
            if (core, at) not in found:
                found.add((core, at))
                for kind in book.rule().kinds().words():
                    left = core_of(book.rule(), [*core, kind])
                    if at not in left:
                        return None
                    waiting.append((tuple([*core, kind][one] for one in left), left.index(at)))
        return sorted(found)

    def test_what_no_future_strikes_and_why(self):
        some = []
        for book in bounded_books():
            for log in logs_of(book, 3):
                standing = [place for place in kept_in(book, log) if self.standings(book, log, place) is not None]
                self.assertEqual(kept_for_ever(book, log), standing)
                some.extend(standing)
                for place in kept_in(book, log):
                    told = why_kept(book, log, place)
                    self.assertEqual(told, self.standings(book, log, place))
                    self.assertIs(is_why_kept(book, log, place, told), told is not None)
        self.assertGreater(len(some), 0)
        self.assertEqual(kept_for_ever(book=first_book(), log=["p", "q"]), [0])
        self.assertEqual(kept_for_ever(first_book(), []), [])

    def test_closed_lists_may_have_more_and_nothing_may_lack(self):
        book, log = tall_book(), ["r", "q"]
        for place in kept_for_ever(book, log):
            told = why_kept(book, log, place)
            for at in range(len(told)):
                self.assertIs(is_why_kept(book, log, place, told[:at] + told[at + 1:]), False)
        one, other = (("a",), 0), (("b",), 0)
        for value, good in (([one], True), ([one, other], True), ([other], False), ([], False), ([other, one], False), ([one, one], False)):
            self.assertIs(is_why_kept(first_book(), ["p", "q"], 0, value), good)

    def test_it_judges_any_object(self):
        right = [(("a",), 0)]
        wrong = bent(right) + [[(("a",), False)], [(("a",), 1)], [(["a"], 0)], [("a", 0)], [(("a", "b"), 0)], [((), 0)],
                               [(("q",), 0)], [(("a",),)], [(("a",), 0, 0)], [(("a",), 0), (("c",), 0)], [(("a",), 0), (("b", "a"), 1)],
                               {(("a",), 0): True}, [(("a",), 0), (("b",), 1)], [((None,), 0)], [(("a",), 0), None],
                               [(("a",), 0), (("a", "b"), 0)], [(("a",), 0), (("a", "a", "b"), 0)]]
        check_judge(self, lambda value: is_why_kept(first_book(), ["p", "q"], 0, value), [right, right + [(("b",), 0)]], wrong)
        check_judge(self, lambda value: is_why_kept(short_book(), ["r", "p"], 0, value), [], [[(("c", "a"), 0)], [(("c",), 0), (("c", "a"), 0)]])

    def test_wrong_arguments(self):
        for call in (kept_for_ever, struck_sets):
            check_wrong(self, call, {"book": short_book(), "log": ["p"]}, wrong_of_logs("log"))
            for book, error in ((wild_book(), Unsettled), (ring_book(), Boundless)):
                check_wrong(self, call, {"book": book, "log": ["p"]}, wrong_of_logs("log"), (error, book))

    def test_what_is_returned_may_be_changed(self):
        book = first_book()
        for call, *given in ((kept_for_ever,), (struck_sets,), (why_kept, 0)):
            told = call(book, ["p", "q"], *given)
            told.clear()
            self.assertNotEqual(call(book, ["p", "q"], *given), [])
        struck_sets(book, ["p"])[0].append(1)
        self.assertEqual(struck_sets(book, ["p"]), [[]])


class StruckSets(unittest.TestCase):
    def by_futures(self, book, log):
        """From each list of places to the least future of up to five kinds that strikes just these."""
        found = {(): None}
        for future in futures(book, 5 if len(book.rule().kinds().words()) < 3 else 4):
            found.setdefault(tuple(struck_by(book, log, future)), future)
        return found

    def test_all_of_them_and_their_least_futures(self):
        for book in bounded_books():
            for log in logs_of(book, 3)[::2]:
                found = self.by_futures(book, log)
                self.assertEqual(struck_sets(book, log), [list(places) for places in sorted(found)])
                for places in parts_of(kept_in(book, log))[1:]:
                    told = future_for(book, log, places)
                    self.assertEqual(told, found.get(tuple(places)))
                    if told is not None:
                        self.assertIs(is_future_for(book, log, places, told), True)

    def test_longer_ones_are_found(self):
        book, log = deep_book(), ["p", "q", "r"]
        self.assertEqual(self.by_futures(book, log)[(0, 2)], ["c", "b"])
        self.assertEqual(future_for(book=book, log=log, places=[0, 2]), ["c", "b"])
        self.assertIs(is_future_for(book=book, log=log, places=[0, 2], value=["c", "b"]), True)
        self.assertIs(is_future_for(book, log, [0, 2], ["b"]), False)

    def test_which_futures_strike_just_these(self):
        for book in bounded_books():
            for log in logs_of(book, 2):
                for places in parts_of(kept_in(book, log))[1:]:
                    for future in futures(book, 3):
                        self.assertIs(is_future_for(book, log, places, future), struck_by(book, log, future) == places)

    def test_it_judges_any_object(self):
        right = [["c", "b"], ["c", "c", "b"], ["c", "b", "b"]]
        right = [future for future in right if struck_by(deep_book(), ["p", "q", "r"], future) == [0, 2]]
        self.assertIn(["c", "b"], right)
        wrong = bent(["c", "b"]) + no_futures() + [["b"], ["a"], ["c", "a"], ["c", "q"], ("c", "b")]
        wrong = [value for value in wrong if value not in (["c", "c", "b"], ["c", "b", "b"])]
        check_judge(self, lambda value: is_future_for(deep_book(), ["p", "q", "r"], [0, 2], value), right, wrong)
        check_judge(self, lambda value: is_future_for(short_book(), ["p", "q"], [1], value), [], [["a", "b", "c"], ["c"], ["a"]])

    def test_wrong_arguments(self):
        form = [value for value in any_objects() if value not in ([0, 1], [1])]
        form.extend([[], [0, 0], [1, 0], [3], [True], [False], (1,), (0, 1), [0, None], ["1"], [[1]], [-1], 1, [1, 3], {1: 1}])
        for call, more in ((future_for, {}), (is_future_for, {"value": None})):
            wrong = {**wrong_of_logs("log"), "places": (InvalidPlaces, form + [[0], [0, 1], [0, 1, 2], [0, 2]])}
            check_wrong(self, call, {"book": short_book(), "log": ["p", "q", "p"], "places": [1, 2], **more}, wrong)
            wrong = {**wrong_of_logs("log"), "places": (InvalidPlaces, form)}
            for places in ([0], [0, 1, 2], [2]):
                for book, error in ((wild_book(), Unsettled), (ring_book(), Boundless)):
                    check_wrong(self, call, {"book": book, "log": ["p", "q", "p"], "places": places, **more}, wrong, (error, book))


class Soon(unittest.TestCase):
    def test_by_all_futures_of_so_many_kinds(self):
        for book in all_books():
            for log in logs_of(book, 3)[::3]:
                for size in (1, 2, 3):
                    struck = {place for future in futures(book, size) for place in struck_by(book, log, future)}
                    self.assertEqual(struck_soon(book, log, size), sorted(struck))

    def test_more_kinds_strike_more(self):
        pages = Book(pages_rule(), {"l": "l", "m": "m", "w": "w"})
        self.assertEqual([struck_soon(book=pages, log=["l", "m", "l"], size=size) for size in (1, 2, 3)], [[2], [1, 2], [1, 2]])
        self.assertEqual(struck_soon(short_book(), ["p", "q"], 60), [0, 1])

    def test_wrong_arguments(self):
        wrong = {**wrong_of_logs("log"), "size": (InvalidCount, [0] + no_counts())}
        for book in (short_book(), ring_book()):
            check_wrong(self, struck_soon, {"book": book, "log": ["p"], "size": 3}, wrong)
        book = wild_book()
        check_wrong(self, struck_soon, {"book": book, "log": ["p"], "size": 3}, wrong, (Unsettled, book))


class KindsThatLast(unittest.TestCase):
    def rules(self):
        return list(all_rules("ab"))[::2] + [wild_rule(), store_rule(), pages_rule(), tall_rule(), square_rule(), short_rule()]

    def least_row(self, rule, kind):
        for row in rows(rule.kinds(), 5 if len(rule.kinds().words()) < 3 else 4):
            if any(kind in [row[at] for at in out_of(strike)] for strike in strikes_on(rule, row)):
                return row
        return None

    def test_by_all_rows(self):
        for rule in self.rules():
            words = rule.kinds().words()
            self.assertEqual(lasting_kinds(rule), [kind for kind in words if self.least_row(rule, kind) is None])
            for kind in words:
                self.assertEqual(striking_row(rule, kind), self.least_row(rule, kind))

    def test_rows_of_two_to_four_entries_are_needed(self):
        sizes = {len(striking_row(rule, kind) or []) for rule in all_rules("ab") for kind in "ab"}
        self.assertEqual(sizes, {0, 2, 3})
        # Of two kinds of these the second place of the one has to be the first one of the other: z otherwise.
        places = {"p": (1, 1), "x": (1, 2), "y": (2, 1), "k": (2, 2)}
        sent = {place: kind for kind, place in places.items()}
        units = Kinds({(one, other): sent[places[one][0], places[other][1]] if "z" not in (one, other) and places[one][1] == places[other][0]
                       else "z" for one in "kpxyz" for other in "kpxyz"})
        self.assertEqual(striking_row(Rule(units, [("p", "x")], []), "k"), ["x", "k", "y", "x"])
        self.assertEqual(lasting_kinds(Rule(units, [("p", "x")], [])), ["z"])
        deep = Kinds({(x, y): "a" if x + y == "xy" else "z" for x in "axyz" for y in "axyz"})
        rule = Rule(deep, [("a", "z")], [])
        self.assertEqual([striking_row(rule=rule, kind=kind) for kind in "axyz"], [self.least_row(rule, kind) for kind in "axyz"])
        self.assertEqual(lasting_kinds(rule=rule), [kind for kind in "axyz" if self.least_row(rule, kind) is None])

    def test_wrong_arguments(self):
        for rule in (wild_rule(), short_rule()):
            check_wrong(self, lasting_kinds, {"rule": rule}, wrong_of_rule())
            check_wrong(self, striking_row, {"rule": rule, "kind": "b"},
                        {**wrong_of_rule(), "kind": (InvalidKind, any_objects() + ["q", "A", ["a"], ("a",), ""])})


class TheExamples(unittest.TestCase):
    def test_those_of_the_document(self):
        few = Book(Rule(Kinds(dict([((x, y), x if x == y else "c") for x in "abc" for y in "abc"])), [("a", "a"), ("a", "c"), ("b", "b"), ("b", "c"), ("c", "c")], []), {"a": "a", "b": "b", "c": "c"})
        self.assertEqual(
            [struck_in(few, ["a", "b"], ["a"]), left_in(few, ["a", "b"], ["a"]), struck_in(few, ["a", "b"], ["c"]), struck_sets(few, ["a", "b"])],
            [[0], [1], [0, 1], [[], [0], [0, 1], [1]]])
        self.assertEqual(
            [least_future(few, ["c", "a"], 0), is_future_striking(few, ["c", "a"], 0, ["a", "a"]), future_for(few, ["a", "b"], [0, 1]), kept_for_ever(few, ["a", "b"])],
            [['b'], False, ['c'], []])
        first = Book(Rule(Kinds({("a", "a"): "a", ("a", "b"): "a", ("b", "a"): "b", ("b", "b"): "b"}), [], [("a", "a"), ("a", "b"), ("b", "a"), ("b", "b")]), {"a": "a", "b": "b"})
        self.assertEqual(
            [kept_for_ever(first, ["a", "b"]), least_future(first, ["a", "b"], 0), why_kept(first, ["a", "b"], 0), is_why_kept(first, ["a", "b"], 0, [(("a",), 0), (("b",), 0)])],
            [[0], None, [(('a',), 0)], True])
        pages = Book(Rule(Kinds(dict([((x, y), x if x == y else "w") for x in "lmw" for y in "lmw"])), [("l", "w"), ("m", "m")], []), {"l": "l", "m": "m", "w": "w"})
        self.assertEqual(
            [struck_soon(pages, ["l", "m", "l"], 1), struck_soon(pages, ["l", "m", "l"], 2), lasting_kinds(pages.rule()), striking_row(pages.rule(), "l"), striking_row(pages.rule(), "w")],
            [[2], [1, 2], ['w'], ['l', 'w'], None])


if __name__ == "__main__":
    unittest.main()
