import itertools
import unittest

from logcores.errors import Boundless, InvalidBook, InvalidCount, InvalidLog, Unsettled
from logcores.kinds import Kinds
from logcores.logs import Book
from logcores.nets import (are_heights, are_two_turns, core_at, core_logs, core_place, core_rows, follow, growth,
                           heights, is_ring, longest, longest_row, many_unlike, mark_of, net, ring, two_turns)
from logcores.rules import Rule
from logcores.settled import is_settled
from tests.helper import (check_judge, check_told, check_wrong, free_rule, late_rule, no_books, no_counts, no_logs,
                          no_rows, pages_rule, raised, ring_book, short_book, short_rule, square_rule, store_book,
                          store_rule, tall_book, tall_rule, trap_rule, wild_book, wild_rule, wrong_of_logs,
                          wrong_of_rule)
from tests.oracle import all_rules, core_names, logs_of, made_by, rows, strikes_on

EMPTY = ((), ())


def bounded_rules():
    two = Rule(Kinds({(x, y): "a" for x in "ab" for y in "ab"}), [], [("a", "a"), ("a", "b")])
    return [short_rule(), tall_rule(), two, Rule(Kinds({("a", "a"): "a"}), [("a", "a")], [])]


def boundless_rules():
    return [store_rule(), pages_rule(), square_rule(), late_rule(), free_rule(), ring_book().rule(), trap_rule()]


def settled_rules():
    return [rule for rule in all_rules("ab") if is_settled(rule)] + bounded_rules() + boundless_rules()


def core_rows_of(rule, longest):
    """All rows without strikes of up to so many entries."""
    found, level = [[]], [[]]
    for _ in range(longest):
        level = [[*row, kind] for row in level for kind in rule.kinds().words()]
        level = [row for row in level if not any(strike[3] == len(row) for strike in strikes_on(rule, row))]
        found.extend(level)
    return found


def mark_by(rule, row):
    """The mark of a row by the words of the document."""
    kinds, size = rule.kinds(), len(row)
    ends = {made_by(kinds, row[first:]) for first in range(size)}
    pairs = {(made_by(kinds, row[first:cut]), made_by(kinds, row[cut:])) for first, cut in itertools.combinations(range(size), 2)}
    return tuple(sorted(ends)), tuple(sorted(pairs))


def net_by(rule):
    """The net, from one core row of each mark."""
    rows_of, waiting, found = {EMPTY: []}, [EMPTY], {}
    while waiting:
        mark = waiting.pop()
        found[mark] = {}
        for kind in rule.kinds().words():
            row = [*rows_of[mark], kind]
            if not any(strike[3] == len(row) for strike in strikes_on(rule, row)):
                found[mark][kind] = mark_by(rule, row)
                if found[mark][kind] not in rows_of:
                    rows_of[found[mark][kind]] = row
                    waiting.append(found[mark][kind])
    return found


class Marks(unittest.TestCase):
    def test_of_all_core_rows(self):
        for rule in settled_rules():
            found = net(rule)
            for row in core_rows_of(rule, 4):
                self.assertEqual(mark_of(rule, row), mark_by(rule, row))
                self.assertIn(mark_by(rule, row), found)
        self.assertEqual(mark_of(rule=short_rule(), row=[]), EMPTY)

    def test_the_net_has_just_their_marks_and_steps_keys_ascending(self):
        for rule in settled_rules():
            found = net(rule=rule)
            self.assertEqual(found, net_by(rule))
            self.assertEqual(list(found), sorted(found))
            for steps in found.values():
                self.assertEqual(list(steps), sorted(steps))

    def test_what_is_returned_may_be_changed(self):
        rule = store_rule()
        net(rule)[EMPTY].clear()
        net(rule).clear()
        self.assertEqual(net(rule), net_by(rule))

    def test_wrong_arguments(self):
        struck = [["a", "a"], ["c", "b", "b"], ["a", "c"], ["a", "b", "a"]]
        wrong = {**wrong_of_rule(), "row": (InvalidLog, no_rows() + struck)}
        check_wrong(self, mark_of, {"rule": short_rule(), "row": ["c", "a"]}, wrong)
        rule = wild_rule()
        wrong = {**wrong_of_rule(), "row": (InvalidLog, no_rows() + [["a", "a"], ["a", "b", "c"]])}
        check_wrong(self, mark_of, {"rule": rule, "row": ["a", "b"]}, wrong, (Unsettled, rule))
        for call in (net, longest, longest_row, heights, ring, growth, two_turns):
            rule = wild_rule()
            check_wrong(self, call, {"rule": short_rule()}, wrong_of_rule())
            check_wrong(self, call, {"rule": rule}, wrong_of_rule(), (Unsettled, rule))


class Follow(unittest.TestCase):
    def test_names_behind_which_nothing_is_struck(self):
        for book in (short_book(), store_book(), tall_book(), ring_book()):
            for log in logs_of(book, 3):
                core = core_names(book, log)
                self.assertEqual(follow(book, log), [name for name in sorted(book.names()) if core_names(book, [*core, name]) == [*core, name]])
        self.assertEqual(follow(book=short_book(), log=["r"]), ["p", "q", "s"])
        self.assertEqual(follow(short_book(), ["p", "q"]), [])

    def test_wrong_arguments(self):
        check_wrong(self, follow, {"book": short_book(), "log": ["p"]}, wrong_of_logs("log"))
        book = wild_book()
        check_wrong(self, follow, {"book": book, "log": ["p"]}, wrong_of_logs("log"), (Unsettled, book))


class Bounds(unittest.TestCase):
    def test_bounded_cores(self):
        for rule, size in zip(bounded_rules(), (2, 4, 2, 1)):
            self.assertEqual(longest(rule), size)
            self.assertEqual(max(len(row) for row in core_rows_of(rule, 6)), size)
            row = longest_row(rule)
            self.assertEqual((len(row), strikes_on(rule, row)), (size, []))
            self.assertEqual((ring(rule), two_turns(rule), growth(rule)), (None, None, ("bounded", size)))
            found = heights(rule)
            self.assertEqual((list(found), found[EMPTY]), (list(net(rule)), size))
            for mark, steps in net(rule).items():
                self.assertEqual(found[mark], max([found[later] + 1 for later in steps.values()], default=0))
            self.assertIs(are_heights(rule, found), True)

    def test_cores_that_are_not_bounded(self):
        for rule in boundless_rules():
            self.assertEqual((longest(rule=rule), longest_row(rule=rule), heights(rule=rule)), (None, None, None))
            self.assertIs(is_ring(rule, ring(rule)), True)

    def test_are_heights(self):
        rule = short_rule()
        least = heights(rule)
        higher = {mark: 10 * height + 7 for mark, height in least.items()}
        turned = dict(reversed(list(least.items())))
        wrong = [{**least, EMPTY: 1}, {**least, EMPTY: True}, {**least, (): 9}, {**least, EMPTY: None}, list(least.items()),
                 {mark: 1 for mark in least}, {mark: -5 + height for mark, height in least.items()},
                 {mark: str(height) for mark, height in least.items()}, {**least, EMPTY: [2]}, tuple(least)]
        wrong.extend([{mark: least[mark] for mark in least if mark != other} for other in least])
        wrong.extend([{**least, mark: False} for mark in least if least[mark] == 0])
        wrong.extend([{**{one: least[one] for one in least if one != mark}, None: 0} for mark in least])
        check_judge(self, lambda value: are_heights(rule, value), [least, higher, turned, {**least, EMPTY: 10 ** 29}], wrong)
        check_judge(self, lambda value: are_heights(store_rule(), value), [], [{mark: 5 for mark in net(store_rule())}])
        self.assertIs(are_heights(rule=rule, value=least), True)

    def test_each_height_matters(self):
        for rule in (tall_rule(), short_rule()):
            least = heights(rule)
            for mark, steps in net(rule).items():
                if steps:
                    self.assertIs(are_heights(rule, {**least, mark: least[mark] - 1}), False)

    def test_wrong_arguments(self):
        for call in (are_heights, is_ring, are_two_turns):
            check_wrong(self, call, {"rule": short_rule(), "value": None}, wrong_of_rule())
            rule = wild_rule()
            check_wrong(self, call, {"rule": rule, "value": None}, wrong_of_rule(), (Unsettled, rule))


class Rings(unittest.TestCase):
    def is_core(self, rule, row):
        return strikes_on(rule, row) == []

    def test_told_rings_go_on(self):
        for rule in boundless_rules():
            ahead, turn = ring(rule)
            self.assertGreater(len(turn), 0)
            for times in range(5):
                self.assertTrue(self.is_core(rule, ahead + turn * times))
            self.assertIs(is_ring(rule=rule, value=(ahead, turn)), True)

    def test_all_short_ones_by_many_turns(self):
        for rule in [store_rule(), late_rule(), free_rule(), short_rule(), square_rule()]:
            short = [row for row in rows(rule.kinds(), 2)]
            for ahead in short:
                for turn in short[1:]:
                    good = all(self.is_core(rule, ahead + turn * times) for times in (0, 1, 2, 4, 6))
                    self.assertIs(is_ring(rule, (ahead, turn)), good)

    def test_more_than_one_way_round(self):
        rule = late_rule()
        self.assertNotEqual(mark_of(rule, ["b"]), mark_of(rule, ["b", "b"]))
        self.assertIs(is_ring(rule, ([], ["b"])), True)
        self.assertTrue(self.is_core(rule, ["c"] * 3))
        self.assertIs(is_ring(rule, ([], ["c"])), False)
        self.assertIs(is_ring(rule, (["b"], ["c"])), False)
        self.assertIs(is_ring(store_rule(), (["s"], ["a"] * 30)), True)

    def test_it_judges_any_object(self):
        right = [(["s"], ["a"]), (["s"], ["a", "a"]), (["s", "a"], ["a"]), ([], ["a"])]
        wrong = [(["s"], []), (["a", "s"], ["a"]), (["z"], ["a"]), ([], ["s"]), (["s"], ["a"], []), (["s"],), (["a"], ["s"]),
                 [["s"], ["a"]], (("s",), ("a",)), (["s"], ("a",)), (["s"], ["q"]), (["s"], "a"), ("s", ["a"]), (["S"], ["a"]),
                 (["s"], [None]), (["s"], [["a"]]), {0: ["s"], 1: ["a"]}, (None, ["a"])]
        check_judge(self, lambda value: is_ring(store_rule(), value), right, wrong)
        check_judge(self, lambda value: is_ring(short_rule(), value), [], right)


class Numbers(unittest.TestCase):
    def test_rows_and_logs_by_counting_them(self):
        for rule in settled_rules()[::2] + bounded_rules() + boundless_rules():
            found = core_rows_of(rule, 5)
            words = rule.kinds().words()
            many = {kind: at + 1 for at, kind in enumerate(words)}
            book = Book(rule, {kind + letter: kind for kind in words for letter in "xyz"[:many[kind]]})
            for size in range(6):
                there = [row for row in found if len(row) == size]
                self.assertEqual(core_rows(rule, size), len(there))
                self.assertEqual(core_logs(book, size), sum(self.product(many, row) for row in there))

    def product(self, many, row):
        found = 1
        for kind in row:
            found *= many[kind]
        return found

    def test_large_sizes(self):
        self.assertEqual(core_rows(rule=free_rule(), size=60), 2 ** 60)
        self.assertEqual(core_logs(book=Book(free_rule(), {"x": "a", "y": "b", "z": "b"}), size=27), 3 ** 27)
        self.assertEqual([core_rows(tall_rule(), size) for size in (0, 4, 5, 60)], [1, 2, 0, 0])

    def test_many_unlike(self):
        for book in (short_book(), tall_book()):
            cores = {tuple(core_names(book, log)) for log in logs_of(book, 4)}
            self.assertEqual(many_unlike(book=book), len(cores))
        self.assertEqual(many_unlike(Book(Rule(Kinds({("a", "a"): "a"}), [("a", "a")], []), {"x": "a", "y": "a"})), 3)

    def test_wrong_arguments(self):
        for call, right, name, wrong in (
                (core_rows, short_rule(), "rule", wrong_of_rule()), (core_logs, short_book(), "book", wrong_of_logs())):
            counts = {**wrong, "size": (InvalidCount, no_counts())}
            check_wrong(self, call, {name: right, "size": 2}, counts)
            held = wild_rule() if name == "rule" else wild_book()
            check_wrong(self, call, {name: held, "size": 2}, counts, (Unsettled, held))
        check_wrong(self, many_unlike, {"book": short_book()}, wrong_of_logs())
        for book, error in ((wild_book(), Unsettled), (ring_book(), Boundless)):
            check_wrong(self, many_unlike, {"book": book}, wrong_of_logs(), (error, book))


class Positions(unittest.TestCase):
    def test_all_of_a_size(self):
        for book in (short_book(), tall_book(), store_book(), ring_book(), Book(late_rule(), {"c": "a", "a": "c", "b": "b"})):
            for size in range(5):
                found = [log for log in logs_of(book, size, size) if core_names(book, log) == log]
                self.assertEqual(core_logs(book, size), len(found))
                self.assertEqual([core_at(book, size, number) for number in range(len(found))], sorted(found))
                self.assertEqual([core_place(book, log) for log in sorted(found)], list(range(len(found))))
                for number in (len(found), len(found) + 1, 10 ** 29):
                    check_told(self, raised(core_at, book, size, number), InvalidCount, number)

    def test_the_first_and_the_last_of_large_sizes(self):
        book = Book(pages_rule(), {"line": "l", "mark": "m", "more": "l", "page": "w"})
        many = core_logs(book, 27)
        for number in (0, 1, many // 2, many - 1):
            log = core_at(book=book, size=27, number=number)
            self.assertEqual((len(log), core_names(book, log)), (27, log))
            self.assertEqual(core_place(book=book, log=log), number)
        check_told(self, raised(core_at, book, 27, many), InvalidCount, many)
        self.assertEqual((core_at(book, 0, 0), core_place(book, [])), ([], 0))

    def test_wrong_arguments(self):
        wrong = {"book": (InvalidBook, no_books()), "size": (InvalidCount, no_counts()), "number": (InvalidCount, no_counts())}
        check_wrong(self, core_at, {"book": short_book(), "size": 2, "number": 3}, wrong)
        book = wild_book()
        for number in (3, 10 ** 29):
            check_wrong(self, core_at, {"book": book, "size": 2, "number": number}, wrong, (Unsettled, book))
        check_told(self, raised(core_at, short_book(), 3, 0), InvalidCount, 0)
        struck = {**wrong_of_logs(), "log": (InvalidLog, no_logs() + [["p", "s"], ["p", "r"], ["p", "q", "p"]])}
        check_wrong(self, core_place, {"book": short_book(), "log": ["p", "q"]}, struck)
        struck = {**wrong_of_logs(), "log": (InvalidLog, no_logs() + [["p", "s"], ["p", "q", "s", "r"]])}
        check_wrong(self, core_place, {"book": book, "log": ["p", "q"]}, struck, (Unsettled, book))


class Growth(unittest.TestCase):
    def test_how_they_grow(self):
        told = [growth(rule) for rule in boundless_rules()]
        self.assertEqual(told, [
            ("power", 0), ("doubling",), ("power", 2), ("doubling",), ("doubling",), ("doubling",), ("power", 0)])
        for rule in settled_rules():
            self.check_growth(rule, growth(rule=rule))

    def check_growth(self, rule, told):
        """Twice as many entries are 2 ** d times as many rows, or by far more where they double."""
        one, other = core_rows(rule, 240), core_rows(rule, 480)
        if told[0] == "bounded":
            self.assertEqual((one, other, told[1]), (0, 0, longest(rule)))
        elif told[0] == "power":
            self.assertEqual(round(2 * other / one), round(2 * 2 ** told[1]))
        else:
            self.assertEqual(told, ("doubling",))
            self.assertGreater(other, one * 2 ** 20)

    def test_all_three_kinds_are_there(self):
        self.assertEqual({growth(rule)[0] for rule in settled_rules()}, {"bounded", "power", "doubling"})
        self.assertEqual({growth(rule)[1] for rule in settled_rules() if growth(rule)[0] == "power"}, {0, 1, 2})

    def test_two_turns_in_any_order(self):
        for rule in settled_rules():
            found = two_turns(rule)
            self.assertIs(found is None, growth(rule) != ("doubling",))
            if found is not None:
                ahead, one, other = found
                self.assertFalse(one[:len(other)] == other or other[:len(one)] == one)
                self.assertEqual({mark_of(rule, ahead), mark_of(rule, ahead + one), mark_of(rule, ahead + other)}, {mark_of(rule, ahead)})
                for turns in itertools.product((one, other), repeat=3):
                    self.assertEqual(strikes_on(rule, ahead + sum(turns, [])), [])
                self.assertIs(are_two_turns(rule=rule, value=found), True)

    def test_all_short_turns_are_judged(self):
        rule = free_rule()
        marks = {tuple(row): mark_of(rule, row) for row in rows(rule.kinds(), 7)}
        short = rows(rule.kinds(), 2)
        for ahead in rows(rule.kinds(), 3):
            for one, other in itertools.product(short, short):
                begins = one[:len(other)] == other or other[:len(one)] == one
                back = all(marks[tuple(ahead + turn)] == marks[tuple(ahead)] for turn in (one, other))
                self.assertIs(are_two_turns(rule, (ahead, one, other)), back and not begins)

    def test_they_judge_any_object(self):
        right = two_turns(free_rule())
        ahead, one, other = right
        wrong = [(ahead, one, one), (ahead, one, []), (ahead, [], other), (ahead, one, one + other), (ahead, other + one, other),
                 list(right), (ahead, one), right + ([],), (tuple(ahead), one, other), (ahead, tuple(one), other), (None, one, other),
                 ([], one, other), (ahead, one, other + ["q"]), (ahead, one, ["q"]), (ahead, one, None), (ahead, one, [other])]
        also = [(ahead, other, one), (ahead + one, one, other), (ahead, one + one, other)]
        good = [value for value in also if are_two_turns(free_rule(), value)]
        self.assertIn(also[0], good)
        check_judge(self, lambda value: are_two_turns(free_rule(), value), [right, *good], wrong)
        check_judge(self, lambda value: are_two_turns(store_rule(), value), [], [(["s"], ["a"], ["a"]), right])
        ahead, one, other = two_turns(pages_rule())
        wrong = [(["m", "m"], one, other), (["l", "w"], one, other), (["m", "m"], ["m"], ["l"]), (ahead, ["m", "m"], ["l", "w"])]
        check_judge(self, lambda value: are_two_turns(pages_rule(), value), [(ahead, one, other), (ahead, other, one)], wrong)


class TheExamples(unittest.TestCase):
    def test_those_of_the_document(self):
        few = Kinds({(x, y): x if x == y else "c" for x in "abc" for y in "abc"})
        short = Rule(few, [("a", "a"), ("a", "c"), ("b", "b"), ("b", "c"), ("c", "c")], [])
        self.assertEqual(
            [longest(short), longest_row(short) in (["a", "b"], ["b", "a"], ["c", "a"], ["c", "b"]), core_rows(short, 2), core_rows(short, 3), growth(short), mark_of(short, ["c", "a"]), ring(short)],
            [2, True, 4, 0, ('bounded', 2), (('a', 'c'), (('c', 'a'),)), None])
        states = Kinds({("a", "a"): "a", ("a", "s"): "s", ("a", "z"): "z", ("s", "a"): "s", ("s", "s"): "s", ("s", "z"): "z", ("z", "a"): "z", ("z", "s"): "s", ("z", "z"): "z"})
        store = Rule(states, [("a", "s"), ("a", "z"), ("s", "s"), ("s", "z"), ("z", "s"), ("z", "z")], [("z", "a")])
        self.assertEqual(
            [len(net(store)), longest(store), is_ring(store, (["s"], ["a"])), is_ring(store, (["z"], ["a"])), [core_rows(store, size) for size in range(5)], growth(store)],
            [7, None, True, False, [1, 3, 2, 2, 2], ('power', 0)])
        shift = Rule(Kinds({(x, y): y for x in "ab" for y in "ab"}), [], [("a", "a")])
        pages = Rule(Kinds({(x, y): x if x == y else "w" for x in "lmw" for y in "lmw"}), [("l", "w"), ("m", "m")], [])
        both = Rule(Kinds({(x, y): x for x in "ab" for y in "ab"}), [], [])
        self.assertEqual([growth(both), core_rows(both, 5)], [('doubling',), 32])
        self.assertEqual(
            [growth(shift), [core_rows(shift, size) for size in range(6)], growth(pages), [core_rows(pages, size) for size in range(6)], len(net(pages))],
            [('power', 1), [1, 2, 3, 4, 5, 6], ('doubling',), [1, 3, 7, 13, 22, 37], 30])


if __name__ == "__main__":
    unittest.main()
