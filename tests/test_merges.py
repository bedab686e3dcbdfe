import itertools
import unittest

from logcores.errors import InvalidKind, InvalidLogs, InvalidMerging, Unsettled
from logcores.kinds import Kinds
from logcores.logs import Book
from logcores.merges import (are_merge_bounds, best_merging, commute, cores_of, is_best_merging, is_merging,
                             kinds_commute, least_reads, left_of, many_best, merge_bounds, merged, needless, reads,
                             struck_where)
from logcores.rules import Rule
from logcores.settled import is_settled
from tests.helper import (any_objects, bent, check_judge, check_wrong, no_logs, pages_rule, ring_book, short_book,
                          short_rule, store_book, store_rule, tall_book, tall_rule, wild_book, wild_rule, wrong_of_logs,
                          wrong_of_rule)
from tests.oracle import all_rules, core_names, core_of, logs_of, made_by, rows

SEGMENTS = [["up", "set", "more"], ["up", "up"], ["set", "up", "set"], ["more"]]


def pages_book():
    return Book(pages_rule(), {"line": "l", "mark": "m", "more": "l", "page": "w"})


def samples():
    """Books with segments: one, some of them empty, six, and some of which no part is struck."""
    return [
        (store_book(), SEGMENTS), (store_book(), [["up", "set"]]), (store_book(), [[]]), (store_book(), [[], []]),
        (store_book(), [[], ["up"], [], ["set", "up"], ["up"], []]), (ring_book(), [["q"], ["r"], ["q"], ["q"]]),
        (pages_book(), [["mark", "line"], ["mark"], ["line", "page"], ["mark", "mark", "more"], ["line"], ["mark"]]),
        (short_book(), [["p", "q"], ["p", "s"], ["r"], ["q", "q", "p"], ["s"]]), (tall_book(), [["r", "q"], ["r"], ["q", "p"]]),
        (pages_book(), [["line"] * 7, ["mark", "line"] * 4, ["page"], ["line", "mark"] * 5, ["more"] * 6, ["mark"] * 6]),
    ]


def whole(segments):
    return [name for segment in segments for name in segment]


def mergings(first, end):
    """All mergings of a stretch of segments, each with its tuples in any order."""
    if end - first == 1:
        return [[]]
    return [[(first, end), *one, *other] for cut in range(first + 1, end)
            for one in mergings(first, cut) for other in mergings(cut, end)]


def reads_by(book, segments, merging):
    """What a merging reads, done one tuple behind the other, the shorter ones first."""
    parts, found = [(at, at + 1, list(segment)) for at, segment in enumerate(segments)], 0
    for first, end in sorted(merging, key=lambda pair: pair[1] - pair[0]):
        (one, _, ahead), (_, late, behind) = [part for part in parts if first <= part[0] and part[1] <= end]
        assert (one, late) == (first, end)
        found += len(ahead) + len(behind)
        parts = sorted([part for part in parts if part[0] < first or end < part[1]] + [(first, end, core_names(book, ahead + behind))])
    return found


def no_segments():
    """What is no list of logs of any of the books."""
    wrong = [value for value in any_objects() if value != [[]]]
    return wrong + [[log] for log in no_logs()] + [(["p"],), ["p"], [["p"], "p"], [["p"], ("p",)], [["p"], None], [], {0: ["p"]}]


class TheWhole(unittest.TestCase):
    def test_merged_and_cores(self):
        for book, segments in samples():
            self.assertEqual(merged(book, segments), core_names(book, whole(segments)))
            self.assertEqual(cores_of(book, segments), [core_names(book, segment) for segment in segments])
            for at in range(len(segments) + 1):
                put = [core_names(book, whole(segments[:at])), core_names(book, whole(segments[at:]))]
                self.assertEqual(merged(book=book, segments=put), merged(book, segments))

    def test_wrong_arguments(self):
        good = [["p", "q"], [], ["s"]]
        for call in (merged, cores_of, least_reads, best_merging, many_best, merge_bounds, struck_where, left_of, needless):
            wrong = {**wrong_of_logs(), "segments": (InvalidLogs, no_segments())}
            check_wrong(self, call, {"book": short_book(), "segments": good}, wrong)
            check_wrong(self, call, {"book": ring_book(), "segments": good}, wrong)
            book = wild_book()
            check_wrong(self, call, {"book": book, "segments": good}, wrong, (Unsettled, book))
        for call in (is_best_merging, are_merge_bounds):
            wrong = {**wrong_of_logs(), "segments": (InvalidLogs, no_segments())}
            check_wrong(self, call, {"book": short_book(), "segments": good, "value": None}, wrong)
            check_wrong(self, call, {"book": book, "segments": good, "value": None}, wrong, (Unsettled, book))

    def test_what_is_returned_may_be_changed(self):
        book, segments = store_book(), [list(segment) for segment in SEGMENTS]
        for call in (merged, cores_of, best_merging, merge_bounds, struck_where, left_of, needless):
            told = call(book, segments)
            if isinstance(told, list) and isinstance(told[0], list):
                told[0].append("q")
            told.clear()
            self.assertNotEqual(call(book, segments), told)
        self.assertEqual(segments, SEGMENTS)


class Mergings(unittest.TestCase):
    def test_just_those_of_so_many_segments(self):
        for many in range(1, 5):
            segments, right = [[]] * many, [sorted(merging) for merging in mergings(0, many)]
            pairs = [(first, end) for first in range(many + 1) for end in range(many + 2)]
            for made in itertools.combinations(pairs, many - 1):
                self.assertIs(is_merging(segments, list(made)), list(made) in right)
        self.assertEqual(sum(is_merging([[]] * 6, sorted(merging)) for merging in mergings(0, 6)), 42)

    def test_it_judges_any_object(self):
        right = [(0, 2), (0, 4), (2, 4)]
        wrong = bent(right) + [right[::-1], right[:2], right + [(1, 3)], [(0, 2), (0, 3)], [(0, 3), (0, 4), (2, 4)],
                               [(0, 1), (0, 4), (2, 4)], [(0, 2), (0, 2), (0, 4)], [(0, 2), (0, 5), (2, 4)], [(0, 2), (1, 4), (2, 4)],
                               [(0, 4), (1, 3), (2, 4)], [(-1, 2), (0, 4), (2, 4)], [(False, 2), (0, 4), (2, 4)], [[0, 2], [0, 4], [2, 4]]]
        check_judge(self, lambda value: is_merging(SEGMENTS, value), [right, [(0, 3), (0, 4), (1, 3)]], wrong)
        check_judge(self, lambda value: is_merging([["x"]], value), [[]], [right, [(0, 1)], [(0, 2)]])
        check_judge(self, lambda value: is_merging(segments=[[], [None]], value=value), [[(0, 2)]], [[(False, 2)], [], [(0, 2), (0, 2)]])

    def test_wrong_segments(self):
        wrong = [value for value in any_objects() if not isinstance(value, list) or not value or not all(isinstance(one, list) for one in value)]
        wrong.extend([[["p"], "p"], ([],), [()], [[], None], [[], {}]])
        check_wrong(self, is_merging, {"segments": [[1], [None], []], "value": None}, {"segments": (InvalidLogs, wrong)})

    def test_reads(self):
        for book, segments in samples():
            for merging in mergings(0, len(segments)):
                self.assertEqual(reads(book, segments, sorted(merging)), reads_by(book, segments, merging))
        self.assertEqual(reads(book=store_book(), segments=[["up"]], merging=[]), 0)

    def test_wrong_arguments_of_reads(self):
        segments = [["p", "q"], [], ["s"]]
        wrong = any_objects() + bent([(0, 2), (0, 3)]) + [[(0, 2)], [(0, 2), (1, 3)], [(0, 3), (0, 2)], ((0, 2), (0, 3))]
        wrong = {**wrong_of_logs(), "segments": (InvalidLogs, no_segments()), "merging": (InvalidMerging, wrong)}
        check_wrong(self, reads, {"book": short_book(), "segments": segments, "merging": [(0, 2), (0, 3)]}, wrong)
        book = wild_book()
        check_wrong(self, reads, {"book": book, "segments": segments, "merging": [(0, 3), (1, 3)]}, wrong, (Unsettled, book))
        check_wrong(self, reads, {"book": short_book(), "segments": [["p"]], "merging": []}, {
            **wrong_of_logs(), "segments": (InvalidLogs, no_segments()), "merging": (InvalidMerging, [[(0, 1)], (), None])})


class BestOnes(unittest.TestCase):
    def test_among_all_mergings(self):
        numbers = set()
        for book, segments in samples():
            found = {tuple(sorted(merging)): reads_by(book, segments, merging) for merging in mergings(0, len(segments))}
            least = min(found.values())
            best = [list(merging) for merging in found if found[merging] == least]
            self.assertEqual(least_reads(book, segments), least)
            self.assertIn(best_merging(book, segments), best)
            self.assertEqual(many_best(book, segments), len(best))
            for merging in found:
                self.assertIs(is_best_merging(book, segments, list(merging)), list(merging) in best)
            numbers.add(len(best))
        self.assertGreater(max(numbers), 1)

    def test_one_segment(self):
        for segments in ([["up"]], [[]]):
            told = [call(store_book(), segments) for call in (least_reads, best_merging, many_best, merge_bounds)]
            self.assertEqual(told, [0, [], 1, {}])
            check_judge(self, lambda value: is_best_merging(store_book(), segments, value), [[]], [[(0, 1)], [[]]])

    def test_it_judges_any_object(self):
        best = [(0, 3), (0, 4), (1, 3)]
        wrong = bent(best) + [[(0, 2), (0, 4), (2, 4)], best[::-1], best[:2], [], [(0, 3), (0, 4), (True, 3)]]
        check_judge(self, lambda value: is_best_merging(store_book(), SEGMENTS, value), [best], wrong)
        told = is_best_merging(book=store_book(), segments=SEGMENTS, value=best_merging(book=store_book(), segments=SEGMENTS))
        self.assertIs(told, True)


class Bounds(unittest.TestCase):
    def least_by_mergings(self, book, segments):
        """The least that is read to merge each stretch, tried out: the greatest bounds."""
        many = len(segments)
        return {(first, end): min(reads_by(book, segments[first:end], merging) for merging in mergings(0, end - first))
                for first in range(many) for end in range(first + 2, many + 1)}

    def test_the_greatest_ones(self):
        for book, segments in samples():
            found = merge_bounds(book=book, segments=segments)
            self.assertEqual(found, self.least_by_mergings(book, segments))
            self.assertEqual(list(found), sorted(found))
            self.assertIs(are_merge_bounds(book, segments, found), True)
            self.assertEqual(found.get((0, len(segments)), 0), least_reads(book, segments))
            for pair in found:
                self.assertIs(are_merge_bounds(book, segments, {**found, pair: found[pair] + 1}), False)

    def test_lesser_ones_are_some_where_they_fit_each_other(self):
        book, found = store_book(), merge_bounds(store_book(), SEGMENTS)
        self.assertIs(are_merge_bounds(book, SEGMENTS, {**found, (0, 4): 0}), True)
        self.assertIs(are_merge_bounds(book, SEGMENTS, {**found, (0, 3): 8}), False)
        self.assertIs(are_merge_bounds(book, SEGMENTS, {**found, (0, 3): 8, (0, 4): 10}), True)

    def test_it_judges_any_object(self):
        book, found = store_book(), merge_bounds(store_book(), SEGMENTS)
        nought = {pair: 0 for pair in found}
        right = [found, nought, dict(reversed(list(found.items())))]
        wrong = [{pair: found[pair] for pair in found if pair != other} for other in found]
        wrong.extend([{**nought, pair: bad} for pair in found for bad in (True, False, None, -1, "0", [0], (0,))])
        wrong.extend([{**nought, other: 0} for other in ((0, 1), (0, 5), (0,), None, "(0, 2)", (0, 2, 3))])
        wrong.extend([list(found.items()), tuple(found), {(False, end) if first == 0 else (first, end): 0 for first, end in found},
                      {(True, end) if first == 1 else (first, end): 0 for first, end in found}, {(str(a), b): 0 for a, b in found}])
        check_judge(self, lambda value: are_merge_bounds(book, SEGMENTS, value), right, wrong)
        check_judge(self, lambda value: are_merge_bounds(book, [["up"]], value), [{}], [{(0, 1): 0}, {(0, 2): 0}, []])
        self.assertIs(are_merge_bounds(book=book, segments=SEGMENTS, value=nought), True)


class Entries(unittest.TestCase):
    def struck(self, book, segments, at):
        """The entries, as (segment, place), that are struck in the whole up to so many segments."""
        there = [(one, place) for one in range(at) for place in range(len(segments[one]))]
        kept = core_of(book.rule(), [book.names()[segments[one][place]] for one, place in there])
        return {entry for number, entry in enumerate(there) if number not in kept}

    def test_which_segment_strikes_what_and_what_is_left(self):
        for book, segments in samples():
            struck = [self.struck(book, segments, at) for at in range(len(segments) + 1)]
            self.assertEqual(struck_where(book, segments), [sorted(late - early) for early, late in zip(struck, struck[1:])])
            left = [[place for place in range(len(segment)) if (at, place) not in struck[-1]] for at, segment in enumerate(segments)]
            self.assertEqual(left_of(book=book, segments=segments), left)
        self.assertEqual(struck_where(book=store_book(), segments=[[], ["up", "set"], ["end"]]), [[], [(1, 0)], [(1, 1)]])

    def test_needless_segments(self):
        for book, segments in samples():
            there = [at for at in range(len(segments))
                     if core_names(book, whole(segments[:at] + segments[at + 1:])) == core_names(book, whole(segments))]
            self.assertEqual(needless(book=book, segments=segments), there)
        self.assertEqual(needless(store_book(), [["up"]]), [])
        self.assertEqual(needless(store_book(), [[]]), [0])
        self.assertEqual(needless(store_book(), [["up"], [], ["up"]]), [1])
        self.assertEqual(needless(store_book(), [["set"], [], ["set"]]), [0, 1, 2])


class Commuting(unittest.TestCase):
    def test_two_logs(self):
        for book in (store_book(), short_book(), tall_book(), ring_book()):
            logs = logs_of(book, 2)
            for one, other in list(itertools.product(logs, logs))[::2]:
                self.assertIs(commute(book, one, other), core_names(book, one + other) == core_names(book, other + one))
        self.assertIs(commute(book=store_book(), one=["up"], other=["end"]), True)
        self.assertIs(commute(book=store_book(), one=["up"], other=["more"]), False)

    def test_kinds_by_all_short_rows_of_entries_each_its_own(self):
        found = set()
        rules = [rule for rule in all_rules("ab") if is_settled(rule)] + [store_rule(), short_rule(), tall_rule(), pages_rule()]
        for rule in rules:
            kinds = rule.kinds()
            there = {kind: [row for row in rows(kinds, 3)[1:] if made_by(kinds, row) == kind] for kind in kinds.words()}
            for kind, late in itertools.product(there, there):
                good = all(self.change_places(rule, one, other) for one in there[kind] for other in there[late])
                self.assertIs(kinds_commute(rule, kind, late), good)
                found.add((good, kind == late))
        self.assertEqual(found, {(True, False), (False, True), (False, False)})

    def change_places(self, rule, one, other):
        """Whether both orders leave the same entries, each of a name of its own."""
        first = core_of(rule, one + other)
        second = core_of(rule, other + one)
        names = [("one", at) for at in range(len(one))], [("other", at) for at in range(len(other))]
        return [(names[0] + names[1])[at] for at in first] == [(names[1] + names[0])[at] for at in second]

    def test_wrong_arguments(self):
        check_wrong(self, commute, {"book": short_book(), "one": ["p"], "other": []}, wrong_of_logs("one", "other"))
        book, rule = wild_book(), wild_rule()
        check_wrong(self, commute, {"book": book, "one": ["p"], "other": []}, wrong_of_logs("one", "other"), (Unsettled, book))
        kinds = (InvalidKind, any_objects() + ["q", "A", ["a"], ("a",)])
        wrong = {**wrong_of_rule(), "kind": kinds, "late": kinds}
        check_wrong(self, kinds_commute, {"rule": short_rule(), "kind": "a", "late": "c"}, wrong)
        check_wrong(self, kinds_commute, {"rule": rule, "kind": "a", "late": "a"}, wrong, (Unsettled, rule))


class TheExamples(unittest.TestCase):
    def test_those_of_the_document(self):
        state = Kinds(dict([((x, y), "z" if x == "z" and y == "a" else "s" if (x, y) == ("s", "a") else x if x == y else y) for x in "asz" for y in "asz"]))
        rule = Rule(state, [("a", "s"), ("a", "z"), ("s", "s"), ("s", "z"), ("z", "s"), ("z", "z")], [("z", "a")])
        book = Book(rule, {"end": "z", "more": "a", "set": "s", "up": "a"})
        segments = [["up", "set", "more"], ["up", "up"], ["set", "up", "set"], ["more"]]
        self.assertEqual(
            [merged(book, segments), cores_of(book, segments), is_merging(segments, [(0, 2), (0, 4), (2, 4)]), reads(book, segments, [(0, 2), (0, 4), (2, 4)])],
            [['set', 'more'], [['set', 'more'], ['up', 'up'], ['set'], ['more']], True, 15])
        self.assertEqual(
            [least_reads(book, segments), best_merging(book, segments), many_best(book, segments), is_best_merging(book, segments, [(0, 4), (1, 3), (1, 4)])],
            [11, [(0, 3), (0, 4), (1, 3)], 1, False])
        self.assertEqual(
            [merge_bounds(book, segments), are_merge_bounds(book, segments, {pair: 0 for pair in merge_bounds(book, segments)})],
            [{(0, 2): 5, (0, 3): 9, (0, 4): 11, (1, 3): 5, (1, 4): 7, (2, 4): 4}, True])
        self.assertEqual(
            [struck_where(book, segments), left_of(book, segments), needless(book, segments)],
            [[[(0, 0)], [], [(0, 1), (0, 2), (1, 0), (1, 1), (2, 0), (2, 1)], []], [[], [], [2], [0]], [0, 1]])
        self.assertEqual(
            [commute(book, ["up"], ["end"]), commute(book, ["up"], ["set"]), commute(book, ["up"], ["more"]), kinds_commute(rule, "a", "z"), kinds_commute(rule, "s", "z")],
            [True, False, False, True, False])


if __name__ == "__main__":
    unittest.main()
