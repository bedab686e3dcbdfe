import itertools
import unittest

from logcores.errors import InvalidCount, InvalidPlaces, Unsettled
from logcores.kinds import Kinds
from logcores.logs import Book
from logcores.readers import (always_read, fewest_for_all, fewest_left, is_left_for_all, is_right, is_shortest_rest, least_rests,
                              left_for_all, read_log, shortest_rest, stretch_rests)
from logcores.rules import Rule
from tests.helper import (any_objects, bent, check_judge, check_told, check_wrong, deep_book, no_counts, pages_rule, raised,
                          ring_book, short_book, store_book, tall_book, wild_book, wrong_of_logs)
from tests.oracle import core_names, core_of, logs_of, parts_of

LOG = ["up", "set", "more", "up", "end", "up"]
WILD = ["p", "q", "p", "q", "p", "p"]


def page_book():
    return Book(pages_rule(), {"l": "l", "m": "m", "w": "w"})


def shift_book():
    kinds = Kinds({("a", "a"): "a", ("a", "b"): "b", ("b", "a"): "a", ("b", "b"): "b"})
    return Book(Rule(kinds, [], [("a", "a")]), {"x": "a", "y": "b"})


def left_book():
    kinds = Kinds({("a", "a"): "a", ("a", "b"): "a", ("b", "a"): "b", ("b", "b"): "b"})
    return Book(Rule(kinds, [("b", "b")], []), {"x": "a", "y": "b"})


def samples():
    for book in (store_book(), short_book(), tall_book(), deep_book(), ring_book(), page_book(), shift_book(), left_book()):
        yield from ((book, log) for log in logs_of(book, 4)[::1 if len(book.names()) < 3 else 5])
    yield from ((book, list(word)) for book, words in (
        (page_book(), ("mlmlml", "lmmlwl")), (left_book(), ("yxyxyx", "xyyxyx")), (shift_book(), ("xyxyxx",))) for word in words)


def done(log, place, rest):
    return log[:place] + [log[other] for other in rest]


def right_rests(book, log, place):
    """All right rests at a place, by the document's words, ascending."""
    whole = core_names(book, log)
    return sorted(rest for rest in parts_of(range(place, len(log))) if core_names(book, done(log, place, rest)) == whole)


class OneReader(unittest.TestCase):
    def test_all_rests_of_all_readers(self):
        longer = set()
        for book, log in samples():
            kept = core_of(book.rule(), [book.names()[name] for name in log])
            for place in range(len(log) + 1):
                right = right_rests(book, log, place)
                for rest in parts_of(range(place, len(log))):
                    self.assertEqual(read_log(book, log, place, rest), done(log, place, rest))
                    self.assertIs(is_right(book, log, place, rest), rest in right)
                least = min(len(rest) for rest in right)
                told = shortest_rest(book, log, place)
                self.assertIn(told, right)
                self.assertEqual((len(told), fewest_left(book, log, place)), (least, least))
                for rest in parts_of(range(len(log))):
                    self.assertIs(is_shortest_rest(book, log, place, rest), rest in right and len(rest) == least)
                minimal = [rest for rest in right if not any(set(less) < set(rest) for less in right)]
                self.assertEqual(least_rests(book, log, place), minimal)
                sure = [other for other in range(place, len(log)) if all(other in rest for rest in right)]
                self.assertEqual(always_read(book, log, place), sure)
                longer.add(set([other for other in kept if other >= place]) <= set(told))
        # A shortest right rest may lack places of the core.
        self.assertEqual(longer, {True, False})

    def test_readers_at_both_ends(self):
        book = store_book()
        self.assertEqual([fewest_left(book, LOG, 6), shortest_rest(book, LOG, 6), least_rests(book, LOG, 6), always_read(book, LOG, 6)],
                         [0, [], [[]], []])
        self.assertEqual([shortest_rest(book=book, log=LOG, place=0), always_read(book=book, log=LOG, place=0)], [[4], [4]])
        self.assertEqual([fewest_left(book=book, log=LOG, place=0), least_rests(book=book, log=LOG, place=0)], [1, [[4]]])
        self.assertEqual((is_right(book=book, log=LOG, place=6, rest=[]), read_log(book=book, log=LOG, place=6, rest=[])), (True, LOG))
        self.assertEqual((fewest_left(book, [], 0), shortest_rest(book, [], 0), read_log(book, [], 0, [])), (0, [], []))

    def test_right_rests_stay_right_with_the_same_entries_behind(self):
        for book, log in ((page_book(), list("mlml")), (left_book(), list("yxyx"))):
            for place in range(5):
                for rest in right_rests(book, log, place):
                    for more in logs_of(book, 2):
                        self.assertEqual(core_names(book, read_log(book, log, place, rest) + more), core_names(book, log + more))

    def test_it_judges_any_object(self):
        book, log = page_book(), list("mlml")
        right = [[1], [3]]
        wrong = [other for one in right for other in bent(one)] + [[2], [0], [], [1, 3], [3, 1], (1,), [True], ["1"], [[1]], [4], [-1]]
        check_judge(self, lambda value: is_shortest_rest(book, log, 1, value), right, wrong)
        check_judge(self, lambda value: is_shortest_rest(book, log, 4, value), [[]], [[0], [4], ()])
        self.assertIs(is_shortest_rest(book=book, log=log, place=1, value=[3]), True)

    def test_eight_entries(self):
        for book, word in ((page_book(), "mlmlmlml"), (left_book(), "yxyxyxyx"), (page_book(), "lllllllw")):
            for place in (0, 3, 8):
                right = right_rests(book, list(word), place)
                self.assertEqual(fewest_left(book, list(word), place), min(map(len, right)))
                self.assertIn(shortest_rest(book, list(word), place), right)

    def test_what_is_passed_and_returned_may_be_changed(self):
        book, log, rest = page_book(), list("mlml"), [1, 3]
        for call in (shortest_rest, least_rests, always_read):
            told = call(book, log, 1)
            call(book, log, 1).append(9)
            self.assertEqual(call(book, log, 1), told)
        least_rests(book, log, 1)[0].clear()
        read_log(book, log, 1, rest).clear()
        self.assertEqual((least_rests(book, log, 1), log, rest), ([[1], [3]], list("mlml"), [1, 3]))

    def test_wrong_arguments(self):
        counts = (InvalidCount, no_counts() + [7, 10 ** 29])
        book = wild_book()
        for call in (fewest_left, shortest_rest, is_shortest_rest, least_rests, always_read):
            more = {"value": None} if call is is_shortest_rest else {}
            for place in (0, 3, 6):
                wrong = {**wrong_of_logs("log"), "place": counts}
                check_wrong(self, call, {"book": store_book(), "log": LOG, "place": place, **more}, wrong)
                check_wrong(self, call, {"book": book, "log": WILD, "place": place, **more}, wrong, (Unsettled, book))

    def test_wrong_rests(self):
        counts = (InvalidCount, no_counts() + [7, 10 ** 29])
        rests = [value for value in any_objects() if value != []] + [
            [2], [0, 4], [2, 4], [4, 3], [3, 3], [6], [-1], [True], [False, 4], ["3"], [[3]], [None], (3,), {3: 4}, 3]
        book = wild_book()
        for call in (read_log, is_right):
            for rest in ([], [3], [3, 4, 5]):
                wrong = {**wrong_of_logs("log"), "place": counts, "rest": (InvalidPlaces, rests)}
                check_wrong(self, call, {"book": store_book(), "log": LOG, "place": 3, "rest": rest}, wrong)
                check_wrong(self, call, {"book": book, "log": WILD, "place": 3, "rest": rest}, wrong, (Unsettled, book))
            rest = [5]
            check_told(self, raised(call, store_book(), LOG, 6, rest), InvalidPlaces, rest)


def is_for_all(book, log, places, value):
    return all([other for other in value if other >= place] in right_rests(book, log, place) for place in places)


class SeveralReaders(unittest.TestCase):
    def test_all_lists_for_all_readers(self):
        seen = set()
        for book, log in samples():
            if len(log) > 4:
                continue
            parts = parts_of(range(len(log)))
            right = {place: right_rests(book, log, place) for place in range(len(log) + 1)}
            for places in parts_of(range(len(log) + 1))[1:]:
                good = [part for part in parts
                        if all([other for other in part if other >= place] in right[place] for place in places)]
                for part in parts:
                    self.assertIs(is_left_for_all(book, log, places, part), part in good)
                least = min(len(part) for part in good)
                told = left_for_all(book, log, places)
                self.assertIn(told, good)
                self.assertEqual((len(told), fewest_for_all(book, log, places)), (least, least))
                alone = set().union(*[shortest_rest(book, log, place) for place in places])
                seen.add((least > len(alone)) - (least < len(alone)))
                stretches = self.stretches(book, log, places)
                self.assertEqual(stretch_rests(book, log, places), stretches)
                self.assertIn(stretches, good)
        # More than the readers need alone may be needed, just as many, or less.
        self.assertEqual(seen, {-1, 0, 1})

    def stretches(self, book, log, places):
        found = []
        for first, end in zip(places, places[1:] + [len(log)]):
            found.extend(first + place for place in core_of(book.rule(), [book.names()[name] for name in log[first:end]]))
        return found

    def test_eight_entries(self):
        book, log = page_book(), list("mlmlmlml")
        for places in ([0, 2, 4], [0, 1, 2, 3, 4, 5, 6, 7, 8], [8], [3]):
            told = left_for_all(book=book, log=log, places=places)
            self.assertTrue(is_for_all(book, log, places, told))
            self.assertEqual(fewest_for_all(book=book, log=log, places=places), len(told))
            less = itertools.combinations(range(8), len(told) - 1) if told else []
            self.assertFalse(any(is_left_for_all(book, log, places, list(part)) for part in less))
            self.assertIs(is_left_for_all(book=book, log=log, places=places, value=stretch_rests(book=book, log=log, places=places)), True)

    def test_places_ahead_of_all_readers_may_stand_in_it(self):
        self.assertIs(is_left_for_all(page_book(), list("mlml"), [1, 2], [0, 3]), is_left_for_all(page_book(), list("mlml"), [1, 2], [3]))
        self.assertIs(is_left_for_all(page_book(), list("mlml"), [4], [0, 1, 2, 3]), True)
        self.assertEqual(left_for_all(page_book(), list("mlml"), [4]), [])

    def test_it_judges_any_object(self):
        book, log = page_book(), list("mlml")
        right = [part for part in parts_of(range(4)) if is_for_all(book, log, [0, 1], part)]
        wrong = [part for part in parts_of(range(4)) if part not in right] + [other for part in right for other in bent(part)]
        wrong = [value for value in wrong if repr(value) not in map(repr, right)]
        wrong.extend([[0, 4], [1, 0], (0, 1), [False, 1], [0, True], [[0, 1]]])
        check_judge(self, lambda value: is_left_for_all(book, log, [0, 1], value), right, wrong)

    def test_wrong_readers(self):
        readers = any_objects() + [[7], [0, 7], [1, 0], [0, 0], [False], [True], [0, True], [-1], ["0"], [[0]], [None], (0,), (0, 1), 0, {0: 1}]
        book = wild_book()
        for call in (is_left_for_all, fewest_for_all, left_for_all, stretch_rests):
            more = {"value": None} if call is is_left_for_all else {}
            for places in ([0], [6], [0, 3, 6]):
                wrong = {**wrong_of_logs("log"), "places": (InvalidPlaces, readers)}
                check_wrong(self, call, {"book": store_book(), "log": LOG, "places": places, **more}, wrong)
                check_wrong(self, call, {"book": book, "log": WILD, "places": places, **more}, wrong, (Unsettled, book))


class TheExamples(unittest.TestCase):
    def test_those_of_the_document(self):
        shift = Kinds({("a", "a"): "a", ("a", "b"): "b", ("b", "a"): "a", ("b", "b"): "b"})
        book, log = Book(Rule(shift, [], [("a", "a")]), {"x": "a", "y": "b"}), ["x", "y", "x"]
        self.assertEqual(
            [read_log(book, log, 2, []), is_right(book, log, 2, []), is_right(book, log, 1, []), fewest_left(book, log, 2), shortest_rest(book, log, 2), left_for_all(book, log, [0, 2])],
            [['x', 'y'], False, True, 1, [2], [2]])
        pages = Kinds(dict([((x, y), x if x == y else "w") for x in "lmw" for y in "lmw"]))
        paper, lines = Book(Rule(pages, [("l", "w"), ("m", "m")], []), {"line": "l", "mark": "m", "page": "w"}), ["mark", "line", "mark", "line"]
        self.assertEqual(
            [fewest_left(paper, lines, 1), least_rests(paper, lines, 1), always_read(paper, lines, 1), is_shortest_rest(paper, lines, 1, [2, 3])],
            [1, [[1], [3]], [], False])
        self.assertEqual(
            [fewest_for_all(paper, lines, [0, 1]), is_left_for_all(paper, lines, [0, 1], [0, 1]), is_left_for_all(paper, lines, [0, 1], [3]), stretch_rests(paper, lines, [0, 2])],
            [2, True, False, [0, 1, 2, 3]])
        left = Kinds({("a", "a"): "a", ("a", "b"): "a", ("b", "a"): "b", ("b", "b"): "b"})
        first, late = Book(Rule(left, [("b", "b")], []), {"x": "a", "y": "b"}), ["y", "x", "y", "x"]
        self.assertEqual(
            [fewest_left(first, late, 2), fewest_left(first, late, 3), fewest_for_all(first, late, [2, 3]), left_for_all(first, late, [2, 3]), stretch_rests(first, late, [2, 3])],
            [0, 1, 2, [2, 3], [2, 3]])


if __name__ == "__main__":
    unittest.main()
