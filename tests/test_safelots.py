import itertools
import unittest

from logcores.errors import InvalidPlaces, Unsettled
from logcores.kinds import Kinds
from logcores.logs import Book
from logcores.rules import Rule
from logcores.safelots import (greatest_within, is_greatest_within, is_safe, is_throwing, least_with, many_safe, never_alone,
                               safe_lots, throwing_of, why_unsafe)
from tests.helper import (any_objects, bent, check_judge, check_told, check_wrong, deep_book, pages_rule, raised, ring_book,
                          short_book, store_book, tall_book, wild_book, wrong_of_logs)
from tests.oracle import core_names, core_of, logs_of, parts_of

LOG = ["up", "set", "more", "up", "end", "up"]
WILD = ["p", "q", "p", "q", "p", "p"]


def page_book():
    return Book(pages_rule(), {"l": "l", "m": "m", "w": "w"})


def first_book():
    """The book of the document's first example: a part of a safe lot is not safe."""
    kinds = Kinds({("a", "a"): "a", ("a", "b"): "a", ("b", "a"): "b", ("b", "b"): "b"})
    return Book(Rule(kinds, [("a", "a")], []), {"a": "a", "b": "b"})


def last_book():
    """The book of the document's second example: two safe lots are not safe together."""
    kinds = Kinds({("a", "a"): "a", ("a", "b"): "b", ("b", "a"): "a", ("b", "b"): "b"})
    return Book(Rule(kinds, [], [("a", "a")]), {"a": "a", "b": "b"})


def even_book():
    """A book by which two entries c behind b are struck together, and one alone is not: a lot without a throwing."""
    rows = {"a": "abcd", "b": "bbdd", "c": "cbad", "d": "dbbd"}
    kinds = Kinds({(x, y): rows[x]["abcd".index(y)] for x in "abcd" for y in "abcd"})
    return Book(Rule(kinds, [], [("b", "a")]), {"a": "a", "b": "b", "c": "c", "d": "d"})


def samples():
    books = [store_book(), short_book(), tall_book(), deep_book(), ring_book(), page_book(), first_book(), last_book()]
    yield from ((even_book(), log) for log in logs_of(even_book(), 3))
    for book in books:
        yield from ((book, log) for log in logs_of(book, 4)[::1 if len(book.names()) < 3 else 3])
    yield from ((page_book(), list(word)) for word in ("mlmlml", "lmmlwl", "mmlwmlm"))
    yield from ((first_book(), list(word)) for word in ("abaabba", "bababab"))


def kept_in(book, log):
    return core_of(book.rule(), [book.names()[name] for name in log])


def struck_in(book, log):
    return [place for place in range(len(log)) if place not in kept_in(book, log)]


def left_by(log, lot):
    return [name for place, name in enumerate(log) if place not in lot]


def safe_in(book, log):
    """All safe lots, by the document's words."""
    return sorted(lot for lot in parts_of(struck_in(book, log)) if core_names(book, left_by(log, lot)) == core_names(book, log))


class SafeLots(unittest.TestCase):
    def test_all_of_them(self):
        seen = set()
        for book, log in samples():
            safe = safe_in(book, log)
            self.assertEqual(safe_lots(book, log), safe)
            self.assertEqual(many_safe(book, log), len(safe))
            self.assertIn(struck_in(book, log), safe)
            for lot in parts_of(struck_in(book, log)):
                self.assertIs(is_safe(book, log, lot), lot in safe)
                cores = (core_names(book, log), core_names(book, left_by(log, lot)))
                self.assertEqual(why_unsafe(book, log, lot), None if lot in safe else cores)
            self.assertEqual(never_alone(book, log), [place for place in struck_in(book, log) if [place] not in safe])
            seen.add(len(safe) == 2 ** len(struck_in(book, log)))
        self.assertEqual(seen, {True, False})

    def test_the_least_ones_with_an_entry(self):
        for book, log in samples():
            safe = safe_in(book, log)
            for place in struck_in(book, log):
                having = [lot for lot in safe if place in lot]
                least = [lot for lot in having if not any(set(other) < set(lot) for other in having)]
                self.assertEqual(least_with(book, log, place), least)

    def test_the_greatest_ones_within_places(self):
        for book, log in samples():
            safe = safe_in(book, log)
            for places in parts_of(struck_in(book, log)):
                within = [lot for lot in safe if set(lot) <= set(places)]
                most = max(len(lot) for lot in within)
                told = greatest_within(book, log, places)
                self.assertIn(told, within)
                self.assertEqual(len(told), most)
                for lot in parts_of(struck_in(book, log)):
                    self.assertIs(is_greatest_within(book, log, places, lot), lot in within and len(lot) == most)

    def test_a_judge_of_any_object(self):
        book, log = first_book(), ["a", "b", "a", "b", "a"]
        safe = [lot for lot in safe_in(book, log) if set(lot) <= {0, 1, 2}]
        most = [lot for lot in safe if len(lot) == max(map(len, safe))]
        wrong = [other for lot in most for other in bent(lot) if other not in most or repr(other) not in map(repr, most)]
        wrong.extend([lot for lot in parts_of([0, 1, 2, 3, 4]) if lot not in most] + [lot[::-1] for lot in most if len(lot) > 1])
        check_judge(self, lambda value: is_greatest_within(book, log, [0, 1, 2], value), most, wrong)
        check_judge(self, lambda value: is_greatest_within(book, log, [], value), [[]], [[0], [1], ()])
        self.assertIs(is_greatest_within(book=book, log=log, places=[0, 1, 2], value=most[0]), True)

    def test_the_empty_log_and_cores(self):
        for log in ([], ["set", "up"]):
            told = [call(store_book(), log) for call in (safe_lots, many_safe, never_alone)]
            self.assertEqual(told, [[[]], 1, []])
            self.assertEqual((greatest_within(store_book(), log, []), throwing_of(store_book(), log, [])), ([], []))

    def test_eight_entries(self):
        for book, word in ((store_book(), ["up", "set", "up", "up", "end", "end", "up", "set"]), (page_book(), list("mlmlmlml"))):
            self.assertEqual(safe_lots(book=book, log=word), safe_in(book, word))
            self.assertEqual(many_safe(book=book, log=word), len(safe_in(book, word)))

    def test_what_is_returned_may_be_changed(self):
        book, log = first_book(), ["a", "b", "a", "b", "a"]
        for call in (safe_lots, lambda book, log: least_with(book=book, log=log, place=0)):
            told = call(book, log)
            call(book, log)[-1].append(7)
            call(book, log).clear()
            self.assertEqual(call(book, log), told)


class Throwings(unittest.TestCase):
    def throwings(self, book, log, lot):
        safe = safe_in(book, log)
        return [list(order) for order in itertools.permutations(lot)
                if all(sorted(order[:size]) in safe for size in range(len(order) + 1))]

    def test_by_all_orders(self):
        seen = set()
        for book, log in samples():
            safe = safe_in(book, log)
            for lot in parts_of(struck_in(book, log)):
                if len(lot) > 5:
                    continue
                found = self.throwings(book, log, lot)
                told = throwing_of(book, log, lot)
                self.assertIs(told is None, found == [])
                if found:
                    self.assertIn(told, found)
                if len(lot) < 4:
                    for order in itertools.permutations(lot):
                        self.assertIs(is_throwing(book, log, lot, list(order)), list(order) in found)
                seen.add((lot in safe, found == []))
        self.assertEqual(seen, {(True, False), (True, True), (False, True)})

    def test_a_safe_lot_without_any(self):
        for book, log in samples():
            for lot in safe_in(book, log):
                if len(lot) == 2 and not self.throwings(book, log, lot):
                    self.assertIs(throwing_of(book=book, log=log, lot=lot), None)
                    self.assertIs(is_throwing(book=book, log=log, lot=lot, value=lot), False)
                    self.assertIs(is_safe(book=book, log=log, lot=lot), True)
                    return
        self.fail("none was found")

    def test_it_judges_any_object(self):
        book, log = first_book(), ["a", "b", "a"]
        wrong = bent([1, 0]) + [[0, 1], [1], [0], [], [1, 0, 0], [1, 1, 0], [1, False], [True, 0], (1, 0), [1, 0, 2], [[1], 0]]
        check_judge(self, lambda value: is_throwing(book, log, [0, 1], value), [[1, 0]], wrong)
        check_judge(self, lambda value: is_throwing(book, log, [], value), [[]], [[1], [0], ()])
        # Of a lot that is not safe there is none.
        check_judge(self, lambda value: is_throwing(book, log, [0], value), [], [[0], [], [1, 0]])

    def test_eight_entries(self):
        log = ["up", "up", "set", "up", "up", "end", "up", "set"]
        told = throwing_of(store_book(), log, [0, 1, 2, 3, 4, 5, 6])
        self.assertIs(is_throwing(store_book(), log, [0, 1, 2, 3, 4, 5, 6], told), True)


class WrongArguments(unittest.TestCase):
    def test_books_and_logs(self):
        book = wild_book()
        for call in (safe_lots, many_safe, never_alone):
            check_wrong(self, call, {"book": store_book(), "log": LOG}, wrong_of_logs("log"))
            check_wrong(self, call, {"book": book, "log": WILD}, wrong_of_logs("log"), (Unsettled, book))

    def test_lots(self):
        lists = [value for value in any_objects() if value != []] + [
            (0,), (), [0, 0], [1, 0], [6], [-1], [10 ** 29], [False], [True], [0, True], ["0"], [[0]], [(0,)], [None], {0: 1}, 0, "0"]
        kept = [[4], [0, 4], [3, 4, 5]]
        book = wild_book()
        for name, calls in (("lot", (is_safe, why_unsafe, throwing_of, is_throwing)), ("places", (greatest_within, is_greatest_within))):
            for call in calls:
                more = {"value": None} if call in (is_throwing, is_greatest_within) else {}
                wrong = {**wrong_of_logs("log"), name: (InvalidPlaces, lists + kept)}
                for lot in ([], [0], [0, 1, 2, 3, 5]):
                    check_wrong(self, call, {"book": store_book(), "log": LOG, name: lot, **more}, wrong)
                wrong[name] = (InvalidPlaces, lists)
                # Whether entries are kept is looked at behind Unsettled.
                for lot in ([], [0], [0, 1, 2, 3, 4, 5]):
                    check_wrong(self, call, {"book": book, "log": WILD, name: lot, **more}, wrong, (Unsettled, book))

    def test_places(self):
        places = [value for value in any_objects() if value is True or value is False or value not in range(6)] + [
            6, -1, 10 ** 29, "0", [0], (1,)]
        book = wild_book()
        wrong = {**wrong_of_logs("log"), "place": (InvalidPlaces, places + [4])}
        check_wrong(self, least_with, {"book": store_book(), "log": LOG, "place": 5}, wrong)
        wrong["place"] = (InvalidPlaces, places)
        for place in range(6):
            check_wrong(self, least_with, {"book": book, "log": WILD, "place": place}, wrong, (Unsettled, book))
        check_told(self, raised(least_with, store_book(), ["set"], 0), InvalidPlaces, 0)

    def test_the_very_lot_is_held(self):
        for lot in ([4], [0, 4], [9]):
            for call in (is_safe, why_unsafe, throwing_of, greatest_within):
                check_told(self, raised(call, store_book(), LOG, lot), InvalidPlaces, lot)


class TheExamples(unittest.TestCase):
    def test_those_of_the_document(self):
        firsts = Kinds({("a", "a"): "a", ("a", "b"): "a", ("b", "a"): "b", ("b", "b"): "b"})
        book, log = Book(Rule(firsts, [("a", "a")], []), {"a": "a", "b": "b"}), ["a", "b", "a"]
        self.assertEqual(
            [is_safe(book, log, [0]), is_safe(book, log, [0, 1]), safe_lots(book, log), why_unsafe(book, log, [0])],
            [False, True, [[], [0, 1], [1]], (['a'], ['b', 'a'])])
        self.assertEqual(
            [least_with(book, log, 0), greatest_within(book, log, [0]), is_greatest_within(book, log, [1], [1]), never_alone(book, log), throwing_of(book, log, [0, 1]), is_throwing(book, log, [0, 1], [0, 1])],
            [[[0, 1]], [], True, [0], [1, 0], False])
        lasts = Kinds({("a", "a"): "a", ("a", "b"): "b", ("b", "a"): "a", ("b", "b"): "b"})
        book, log = Book(Rule(lasts, [], [("a", "a")]), {"a": "a", "b": "b"}), ["a", "b", "a", "a"]
        self.assertEqual(
            [many_safe(book, log), is_safe(book, log, [2]), is_safe(book, log, [3]), is_safe(book, log, [2, 3])],
            [7, True, True, False])


if __name__ == "__main__":
    unittest.main()
