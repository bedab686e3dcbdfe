import unittest

from logcores.errors import InvalidCount, InvalidName, InvalidPlaces, Unsettled
from logcores.kinds import Kinds
from logcores.logs import Book
from logcores.memory import (core_back, felled, idle_names, idle_places, kept_behind, memory_peak, memory_rows, moments,
                             most_kept, needed_for, struck_with, with_entry, without, woken)
from logcores.rules import Rule
from tests.helper import (any_objects, check_told, check_wrong, deep_book, no_counts, pages_rule, raised, ring_book, short_book,
                          store_book, store_rule, tall_book, wild_book, wrong_of_logs)
from tests.oracle import core_names, core_of, logs_of

LOG = ["up", "set", "more", "up", "end", "up"]
WILD = ["p", "q", "p", "q", "p", "p"]


def page_book():
    return Book(pages_rule(), {"l": "l", "m": "m", "w": "w"})


def first_book():
    """A book of a rule that stops: entries may be struck with their own place."""
    kinds = Kinds({("a", "a"): "a", ("a", "b"): "a", ("b", "a"): "b", ("b", "b"): "b"})
    return Book(Rule(kinds, [], [("a", "a"), ("a", "b"), ("b", "a"), ("b", "b")]), {"a": "a", "b": "b"})


def samples():
    """Books with all short logs of theirs, and some longer ones."""
    for book in (store_book(), short_book(), tall_book(), deep_book(), ring_book(), page_book(), first_book()):
        yield from ((book, log) for log in logs_of(book, 3))
    store = Book(store_rule(), {"a": "a", "s": "s", "z": "z"})
    for book, words in ((store, ["asaazaasa", "sazasaazza", "aaaaszaa"]), (page_book(), ["mlmlwmlmw", "lmlmmlwlml"])):
        yield from ((book, list(word)) for word in words)


def kept_in(book, log):
    return core_of(book.rule(), [book.names()[name] for name in log])


def moments_in(book, log):
    """For each entry the least size of a beginning that has it and strikes it, by the document's words."""
    found = []
    for place in range(len(log)):
        sizes = [size for size in range(place + 1, len(log) + 1) if place not in kept_in(book, log[:size])]
        found.append(sizes[0] if sizes else None)
    return found


def rows_in(book, log, number):
    """All rows of entries that are kept in a beginning that lacks at most so many entries."""
    places = {place for lacking in range(number + 1) for place in kept_in(book, log[:len(log) - lacking])}
    return [(place, log[place], moments_in(book, log)[place]) for place in sorted(places)]


class Moments(unittest.TestCase):
    def test_by_the_cores_of_all_beginnings(self):
        for book, log in samples():
            found = moments_in(book, log)
            self.assertEqual(moments(book, log), found)
            for place, moment in enumerate(found):
                self.assertEqual(struck_with(book, log, place), None if moment is None else moment - 1)
            for size in range(len(log) + 1):
                self.assertEqual(kept_behind(book, log, size), kept_in(book, log[:size]))
            sizes = [len(kept_in(book, log[:size])) for size in range(len(log) + 1)]
            self.assertEqual(most_kept(book, log), (max(sizes), sizes.index(max(sizes))))

    def test_struck_with_its_own_place(self):
        book = first_book()
        self.assertEqual(moments(book=book, log=["b", "a", "b"]), [None, 2, 3])
        self.assertEqual([struck_with(book, ["b", "a", "b"], place) for place in range(3)], [None, 1, 2])
        self.assertEqual(struck_with(book=book, log=["a", "b"], place=1), 1)

    def test_the_empty_log(self):
        book = store_book()
        self.assertEqual((moments(book, []), kept_behind(book, [], 0), most_kept(book=book, log=[])), ([], [], (0, 0)))

    def test_forty_entries(self):
        log = list("lmmlmwlmlm" * 4)
        self.assertEqual(moments(page_book(), log), moments_in(page_book(), log))

    def test_what_is_returned_may_be_changed(self):
        for call in (moments, lambda book, log: kept_behind(book=book, log=log, number=6), lambda book, log: memory_rows(book, log, 2)):
            told = call(store_book(), LOG)
            call(store_book(), LOG).clear()
            self.assertEqual(call(store_book(), LOG), told)

    def test_wrong_arguments(self):
        book = wild_book()
        for call in (moments, most_kept, idle_places, idle_names):
            check_wrong(self, call, {"book": store_book(), "log": LOG}, wrong_of_logs("log"))
            check_wrong(self, call, {"book": book, "log": WILD}, wrong_of_logs("log"), (Unsettled, book))


def no_places():
    """What is no place of a log of six entries."""
    return [value for value in any_objects() if value is True or value is False or value not in range(6)] + [
        6, -1, 10 ** 29, "0", [0], (1,)]


class Places(unittest.TestCase):
    def test_wrong_places(self):
        book = wild_book()
        wrong = {**wrong_of_logs("log"), "place": (InvalidPlaces, no_places())}
        for call in (struck_with, without, woken, needed_for):
            for place in (0, 5):
                check_wrong(self, call, {"book": store_book(), "log": LOG, "place": place}, wrong)
                check_wrong(self, call, {"book": book, "log": WILD, "place": place}, wrong, (Unsettled, book))
            check_told(self, raised(call, store_book(), [], 0), InvalidPlaces, 0)

    def test_wrong_entries(self):
        book = wild_book()
        places = [value for value in no_places() if value != 6 or not isinstance(value, int)] + [7]
        names = any_objects() + ["q", "Up", ["up"], ("up",), "a"]
        for call in (with_entry, felled):
            for place in (0, 6):
                wrong = {**wrong_of_logs("log"), "place": (InvalidPlaces, places), "name": (InvalidName, names)}
                check_wrong(self, call, {"book": store_book(), "log": LOG, "place": place, "name": "up"}, wrong)
                wrong["name"] = (InvalidName, [name for name in names if name != "q"] + ["up"])
                check_wrong(self, call, {"book": book, "log": WILD, "place": place, "name": "p"}, wrong, (Unsettled, book))


class Numbers(unittest.TestCase):
    def test_wrong_numbers(self):
        book = wild_book()
        for call in (kept_behind, memory_rows):
            wrong = {**wrong_of_logs("log"), "number": (InvalidCount, no_counts() + [7, 10 ** 29])}
            for number in (0, 6):
                check_wrong(self, call, {"book": store_book(), "log": LOG, "number": number}, wrong)
            wrong["number"] = (InvalidCount, no_counts())
            # That a number is too great is looked at behind Unsettled.
            for number in (0, 6, 7, 10 ** 29):
                check_wrong(self, call, {"book": book, "log": WILD, "number": number}, wrong, (Unsettled, book))

    def test_any_count_for_the_peak(self):
        wrong, book = {**wrong_of_logs("log"), "number": (InvalidCount, no_counts())}, wild_book()
        for number in (0, 6, 7, 60):
            check_wrong(self, memory_peak, {"book": store_book(), "log": LOG, "number": number}, wrong)
            check_wrong(self, memory_peak, {"book": book, "log": WILD, "number": number}, wrong, (Unsettled, book))


class Rows(unittest.TestCase):
    def test_all_that_are_kept_in_a_late_beginning(self):
        for book, log in samples():
            for number in range(len(log) + 1):
                rows = memory_rows(book, log, number)
                self.assertEqual(rows, rows_in(book, log, number))
                for many in range(number + 1):
                    self.assertEqual(core_back(rows, len(log), many), core_names(book, log[:len(log) - many]))

    def test_none_of_the_rows_can_be_left_out(self):
        book, log = page_book(), list("mlmlwmlmw")
        for number in range(10):
            rows = memory_rows(book=book, log=log, number=number)
            for at in range(len(rows)):
                less = rows[:at] + rows[at + 1:]
                self.assertTrue(any(core_back(rows=less, size=9, many=many) != core_names(book, log[:9 - many])
                                    for many in range(number + 1)))

    def test_the_peak_over_all_beginnings(self):
        for book, log in samples():
            for number in (0, 1, 2, len(log), len(log) + 1, 60):
                peak = max(len(rows_in(book, log[:size], min(number, size))) for size in range(len(log) + 1))
                self.assertEqual(memory_peak(book=book, log=log, number=number), peak)

    def test_rows_of_any_origin(self):
        rows = [(0, "x", None), (2, "abcdefgh", 4), (5, "x", 3), (10 ** 29, "y", 0)]
        self.assertEqual([core_back(rows, 3, many) for many in range(4)], [["x", "abcdefgh"], ["x"], ["x"], []])
        self.assertEqual(core_back(rows, 6, 0), ["x"])
        self.assertEqual((core_back([], 0, 0), core_back(rows, 2, 0), core_back(rows, 4, 0)), ([], ["x"], ["x"]))

    def test_wrong_rows_and_sizes(self):
        rows = [(0, "x", None), (2, "y", 4)]
        wrong = [value for value in any_objects() if value != []] + [
            tuple(rows), rows[::-1], [rows[0], rows[0]], [(0, "x", None), (1, "y", None), (1, "x", 2)], [["x", 0, None]], [[0, "x", None]],
            [(0, "x")], [(0, "x", None, 1)], [(False, "x", None)], [(True, "x", None)], [(0, "X", None)], [(0, "", None)], [(0, None, None)],
            [(0, "abcdefghi", 1)], [(0, "x", True)], [(0, "x", False)], [(0, "x", -1)], [(-1, "x", 1)], [(0, "x", "1")], [(0, "x", [1])],
            [("0", "x", 1)], [(None, "x", 1)], [(0, ["x"], 1)], [(0, ("x",), 1)], rows + [None], [rows], {0: ("x", None)}]
        counts = no_counts()
        check_wrong(self, core_back, {"rows": rows, "size": 6, "many": 6}, {
            "rows": (InvalidPlaces, wrong), "size": (InvalidCount, counts), "many": (InvalidCount, counts + [7, 10 ** 29])})
        check_wrong(self, core_back, {"rows": [], "size": 0, "many": 0}, {
            "rows": (InvalidPlaces, wrong), "size": (InvalidCount, counts), "many": (InvalidCount, counts + [1])})


class Entries(unittest.TestCase):
    def kept_without(self, book, log, place):
        others = [other for other in range(len(log)) if other != place]
        return [others[at] for at in kept_in(book, [log[other] for other in others])]

    def test_one_entry_less(self):
        for book, log in samples():
            kept = kept_in(book, log)
            for place in range(len(log)):
                left = self.kept_without(book, log, place)
                self.assertEqual(without(book, log, place), [log[other] for other in left])
                self.assertEqual(woken(book, log, place), sorted(set(left) - set(kept)))
                needed = [other for other in range(len(log)) if other != place
                          and place not in kept and place in self.kept_without(book, log, other)]
                self.assertEqual(needed_for(book, log, place), needed)
            idle = [place for place in range(len(log)) if without(book, log, place) == core_names(book, log)]
            self.assertEqual(idle_places(book, log), idle)

    def test_one_entry_more(self):
        for book, log in samples():
            kept = kept_in(book, log)
            for name in book.names():
                for place in range(len(log) + 1):
                    more = log[:place] + [name] + log[place:]
                    self.assertEqual(with_entry(book, log, place, name), core_names(book, more))
                    left = kept_in(book, more)
                    gone = [other for other in kept if (other if other < place else other + 1) not in left]
                    self.assertEqual(felled(book, log, place, name), gone)
            idle = [name for name in book.names() if core_names(book, log + [name]) == core_names(book, log)]
            self.assertEqual(idle_names(book, log), idle)

    def test_by_name(self):
        book = store_book()
        self.assertEqual(without(book=book, log=LOG, place=4), ["set", "more", "up", "up"])
        self.assertEqual(woken(book=book, log=LOG, place=4), [1, 2, 3, 5])
        self.assertEqual(with_entry(book=book, log=LOG, place=6, name="set"), ["set"])
        self.assertEqual(felled(book=book, log=LOG, place=5, name="set"), [4])
        self.assertEqual(needed_for(book=book, log=LOG, place=5), [4])
        self.assertEqual((idle_places(book=book, log=LOG), idle_names(book=book, log=LOG)), ([0, 1, 2, 3, 5], ["end", "more", "up"]))

    def test_a_name_that_leaves_an_unlike_entry_is_not_idle(self):
        book = Book(store_rule(), {"a": "a", "s": "s", "x": "z", "y": "z"})
        self.assertEqual(idle_names(book, ["x"]), ["a", "x"])
        self.assertEqual(idle_places(book, ["x", "y"]), [0])
        self.assertEqual(idle_places(book, ["x", "x"]), [0, 1])

    def test_logs_that_are_passed_stay(self):
        log = list(LOG)
        for call in (without, woken, needed_for):
            call(store_book(), log, 2)
        for call in (with_entry, felled):
            call(store_book(), log, 2, "up").append(0)
        self.assertEqual(log, LOG)


class TheExamples(unittest.TestCase):
    def test_those_of_the_document(self):
        states = Kinds({("a", "a"): "a", ("a", "s"): "s", ("a", "z"): "z", ("s", "a"): "s", ("s", "s"): "s", ("s", "z"): "z", ("z", "a"): "z", ("z", "s"): "s", ("z", "z"): "z"})
        book = Book(Rule(states, [("a", "s"), ("a", "z"), ("s", "s"), ("s", "z"), ("z", "s"), ("z", "z")], [("z", "a")]), {"a": "a", "s": "s", "z": "z"})
        log = list("asaazaasa")
        self.assertEqual(
            [moments(book, log), struck_with(book, log, 4), struck_with(book, log, 8), kept_behind(book, log, 9), kept_behind(book, log, 4)],
            [[2, 5, 5, 5, 8, 6, 7, None, None], 7, None, [7, 8], [1, 2, 3]])
        rows = memory_rows(book, log, 2)
        self.assertEqual(
            [rows, core_back(rows, 9, 0), core_back(rows, 9, 1), core_back(rows, 9, 2), most_kept(book, log)],
            [[(4, 'z', 8), (7, 's', None), (8, 'a', None)], ['s', 'a'], ['s'], ['z'], (3, 4)])
        self.assertEqual(
            [without(book, log, 7), woken(book, log, 7), with_entry(book, log, 9, "z"), without(book, log, 0)],
            [['z'], [4], ['z'], ['s', 'a']])


if __name__ == "__main__":
    unittest.main()
