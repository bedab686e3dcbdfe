import itertools
import unittest

from logcores.errors import (InvalidBook, InvalidCount, InvalidMap, InvalidNames, InvalidPlaces, InvalidRoad,
                             InvalidRule, InvalidStrike)
from logcores.kinds import Kinds
from logcores.logs import (Book, after, by_kinds, is_log, kind_of, kinds_of, log_behind, log_of, log_sent, log_without,
                           mirrored_strike, strikes, taken, with_names)
from logcores.rules import Rule, mirrored_rule
from tests.helper import (any_objects, bent, check_judge, check_told, check_wrong, last_kinds, no_books, no_counts,
                          no_logs, no_rules, pages_rule, raised, short_book, short_rule, store_book, store_rule,
                          wild_book, wrong_of_logs)
from tests.oracle import all_rules, left_behind, made_by, out_of, rows, strikes_on

LOG = ["up", "set", "more", "up", "end"]
NAMES = {"end": "z", "more": "a", "set": "s", "up": "a"}


def kind_book(rule):
    return Book(rule, {kind: kind for kind in rule.kinds().words()})


def no_strikes():
    """What is no strike by its form."""
    return any_objects() + bent(("cover", 0, 1, 2)) + [
        ("cover", 1, 1, 2), ("cover", 0, 2, 2), ("stop", 2, 1, 3), ("stop", 0, 1), ("cover", "0", "1", "2"),
        ("cover", 0, 1, None), (("cover",), 0, 1, 2), "cover", ("take", 0, 1, 2), (None, 0, 1, 2)]


def no_places(size):
    """What is no ascending list of places of a log of so many entries, at least two."""
    wrong = [value for value in any_objects() if value != []]
    return wrong + [(), (0,), [0, 0], [1, 0], [size], [0, size], [-1], [-1, 0], [True], [False], [0, True], [0, None],
                    ["0"], [[0]], {0: 1}, [0, 1, 1], 0, 1]


class TheBook(unittest.TestCase):
    def test_it_tells_what_it_is_made_of(self):
        book = Book(store_rule(), {"up": "a", "set": "s", "more": "a", "end": "z"})
        self.assertEqual(book.rule(), store_rule())
        self.assertEqual(list(book.names().items()), list(NAMES.items()))
        named = Book(names=NAMES, rule=store_rule())
        self.assertEqual((named.rule(), named.names()), (store_rule(), NAMES))

    def test_equal_exactly_if_both_are(self):
        one = store_book()
        self.assertEqual(one, Book(store_rule(), dict(reversed(list(NAMES.items())))))
        self.assertNotEqual(one, Book(store_rule(), {"end": "z", "more": "s", "set": "s", "up": "a"}))
        self.assertNotEqual(one, Book(store_rule(), {**NAMES, "last": "z"}))
        self.assertNotEqual(one, Book(Rule(store_rule().kinds(), [], []), NAMES))
        self.assertIs(one == store_book(), True)
        for value in (store_rule(), NAMES, (store_rule(), NAMES), None, True, [one]):
            self.assertIs(one == value, False)
            self.assertIs(value == one, False)

    def test_what_was_passed_or_returned_may_be_changed(self):
        names = dict(NAMES)
        book = Book(store_rule(), names)
        names.clear()
        book.names().pop("up")
        book.rule().covers().clear()
        self.assertEqual((book.names(), book), (NAMES, store_book()))
        self.assertIsNot(book.names(), book.names())

    def test_wrong_arguments(self):
        names = any_objects() + [
            {"up": "a", "set": "s"}, {"up": "a", "set": "s", "end": "z", "x": "q"}, {"up": "a", "set": "s", "end": "q"}, {"Up": "a", "set": "s", "end": "z"},
            {"up": "a", "set": "s", "end": None}, {"up": "a", "set": "s", "end": ["z"]}, {"": "a", "set": "s", "end": "z"},
            {"abcdefghi": "a", "set": "s", "end": "z"}, {True: "a", "set": "s", "end": "z"}, list(NAMES), list(NAMES.items()),
            {"up": "a", "set": "s", "end": "z", 1: "a"}, {"up": "a", "set": "s", "end": "z", ("b",): "a"}]
        check_wrong(self, Book, {"rule": store_rule(), "names": NAMES},
                    {"rule": (InvalidRule, no_rules()), "names": (InvalidNames, names)})

    def test_a_rule_that_is_not_settled_and_many_names_are_no_error(self):
        self.assertEqual(wild_book().names(), short_book().names())
        many = {first + second: "a" for first in "abcde" for second in "abcde"}
        self.assertEqual(len(Book(short_rule(), {**many, "q": "b", "r": "c"}).names()), 27)


class TheLogs(unittest.TestCase):
    def test_is_log(self):
        check_judge(self, lambda value: is_log(store_book(), value), [[], LOG, ["up"], ["up"] * 50, ["end", "end"]], no_logs())
        self.assertIs(is_log(book=store_book(), value=LOG), True)
        check_wrong(self, is_log, {"book": store_book(), "value": LOG}, {"book": (InvalidBook, no_books())})

    def test_kinds_and_kinds_of_blocks(self):
        book = store_book()
        self.assertEqual(kinds_of(book, LOG), ["a", "s", "a", "a", "z"])
        self.assertEqual(kinds_of(book, []), [])
        row = kinds_of(book, LOG)
        for first, end in itertools.combinations(range(len(LOG) + 1), 2):
            self.assertEqual(kind_of(book, LOG, (first, end)), made_by(book.rule().kinds(), row[first:end]))
        check_wrong(self, kinds_of, {"book": book, "log": LOG}, wrong_of_logs("log"))

    def test_wrong_blocks(self):
        wrong = any_objects() + bent((0, 1)) + [(0, 6), (1, 1), (2, 1), (-1, 2), (0, 5, 5), [0, 1], (0,), (5, 6), (0, None)]
        check_wrong(self, kind_of, {"book": store_book(), "log": LOG, "block": (0, 5)},
                    {**wrong_of_logs("log"), "block": (InvalidPlaces, wrong)})
        check_told(self, raised(kind_of, store_book(), [], (0, 1)), InvalidPlaces, (0, 1))

    def test_without_and_of(self):
        book = store_book()
        for size in range(len(LOG) + 1):
            for places in itertools.combinations(range(len(LOG)), size):
                others = [place for place in range(len(LOG)) if place not in places]
                self.assertEqual(log_of(book, LOG, list(places)), [LOG[place] for place in places])
                self.assertEqual(log_without(book, LOG, list(places)), [LOG[place] for place in others])
        self.assertEqual((log_of(book, [], []), log_without(book, [], [])), ([], []))
        for call in (log_of, log_without):
            check_wrong(self, call, {"book": book, "log": LOG, "places": [0, 4]},
                        {**wrong_of_logs("log"), "places": (InvalidPlaces, no_places(5))})

    def test_what_is_returned_may_be_changed(self):
        book, log = store_book(), list(LOG)
        log_of(book, log, [0, 1, 2, 3, 4]).clear()
        log_without(book, log, []).clear()
        kinds_of(book, log).clear()
        self.assertEqual(log, LOG)


class TheStrikes(unittest.TestCase):
    def test_all_that_fit_ascending(self):
        for rule in all_rules("ab"):
            book = kind_book(rule)
            for log in rows(rule.kinds(), 4):
                self.assertEqual(strikes(book, log), strikes_on(rule, log))
        for rule in (store_rule(), pages_rule(), short_rule()):
            for log in rows(rule.kinds(), 5):
                self.assertEqual(strikes(kind_book(rule), log), strikes_on(rule, log))

    def test_strikes_of_both_words_and_of_whole_logs(self):
        loose = Book(Rule(Kinds({("a", "a"): "a"}), [("a", "a")], [("a", "a")]), {"x": "a", "y": "a"})
        found = strikes(loose, ["x", "y", "x"])
        self.assertEqual(found, [
            ("cover", 0, 1, 2), ("cover", 0, 1, 3), ("cover", 0, 2, 3), ("cover", 1, 2, 3),
            ("stop", 0, 1, 2), ("stop", 0, 1, 3), ("stop", 0, 2, 3), ("stop", 1, 2, 3)])
        self.assertEqual([log_behind(loose, ["x", "y", "x"], strike) for strike in found],
                         [["y", "x"], ["y", "x"], ["x"], ["x", "x"], ["x", "x"], ["x"], ["x", "y"], ["x", "y"]])

    def test_behind_each_strike(self):
        for rule in (store_rule(), pages_rule()):
            for log in rows(rule.kinds(), 4):
                for strike in strikes(kind_book(rule), log):
                    self.assertEqual(log_behind(kind_book(rule), log, strike), left_behind(log, strike))
                    self.assertEqual(range(*taken(strike)), out_of(strike))

    def test_strikes_that_do_not_fit(self):
        book = store_book()
        fitting = strikes(book, LOG)
        others = [(word, *counts) for word in ("cover", "stop") for counts in itertools.combinations(range(7), 3)]
        others = [strike for strike in others if strike not in fitting]
        check_wrong(self, log_behind, {"book": book, "log": LOG, "strike": fitting[0]},
                    {**wrong_of_logs("log"), "strike": (InvalidStrike, no_strikes() + others)})
        check_told(self, raised(log_behind, book, [], others[0]), InvalidStrike, others[0])

    def test_taken_and_wrong_strikes(self):
        self.assertEqual([taken(("cover", 1, 2, 4)), taken(("stop", 1, 2, 4)), taken(strike=("stop", 0, 5, 9))],
                         [(1, 2), (2, 4), (5, 9)])
        check_wrong(self, taken, {"strike": ("cover", 0, 1, 2)}, {"strike": (InvalidStrike, no_strikes())})

    def test_wrong_arguments(self):
        check_wrong(self, strikes, {"book": store_book(), "log": LOG}, wrong_of_logs("log"))
        self.assertEqual(strikes(store_book(), []), [])


class After(unittest.TestCase):
    def test_lists_of_strikes_one_behind_the_other(self):
        book = kind_book(pages_rule())
        for log in rows(pages_rule().kinds(), 4):
            for first in strikes(book, log):
                places = left_behind(list(range(len(log))), first)
                left = [log[place] for place in places]
                self.assertEqual(after(book, log, [first]), (left, places))
                for second in strikes(book, left):
                    places2 = left_behind(places, second)
                    self.assertEqual(after(book, log, [first, second]), ([log[place] for place in places2], places2))
            self.assertEqual(after(book=book, log=log, strikes=[]), (log, list(range(len(log)))))

    def test_wrong_lists(self):
        book = store_book()
        good = [("cover", 0, 1, 2), ("cover", 0, 3, 4)]
        self.assertEqual(after(book, LOG, good), (["end"], [4]))
        wrong = [value for value in any_objects() if value != []] + [tuple(good), good[0], good[::-1], good + [good[1]]]
        wrong.extend([good[:1] + [other] for other in bent(good[1])])
        wrong.extend([[other] for other in no_strikes()])
        check_wrong(self, after, {"book": book, "log": LOG, "strikes": good},
                    {**wrong_of_logs("log"), "strikes": (InvalidRoad, wrong)})

    def test_it_changes_nothing(self):
        log, made = list(LOG), [("cover", 0, 1, 2)]
        left, places = after(store_book(), log, made)
        left.clear()
        places.clear()
        after(store_book(), log, [])[0].clear()
        self.assertEqual((log, made), (LOG, [("cover", 0, 1, 2)]))


class OtherBooks(unittest.TestCase):
    def test_by_kinds(self):
        self.assertEqual(by_kinds(store_book()), Book(store_rule(), {"a": "a", "s": "s", "z": "z"}))
        check_wrong(self, by_kinds, {"book": store_book()}, {"book": (InvalidBook, no_books())})

    def test_with_names_and_logs_sent(self):
        sent = {"up": "end", "set": "z", "more": "up", "end": "a"}
        book = with_names(store_book(), sent)
        self.assertEqual(list(book.names().items()), [("a", "z"), ("end", "a"), ("up", "a"), ("z", "s")])
        self.assertEqual(log_sent(store_book(), LOG, sent), ["end", "z", "up", "end", "a"])
        self.assertEqual(log_sent(store_book(), [], sent), [])
        self.assertEqual(strikes(book, log_sent(store_book(), LOG, sent)), strikes(store_book(), LOG))
        self.assertEqual(strikes(by_kinds(book), kinds_of(store_book(), LOG)), strikes(store_book(), LOG))
        self.assertEqual(book.rule(), store_rule())

    def test_wrong_maps(self):
        same = {name: name for name in NAMES}
        wrong = any_objects() + [
            {**same, "up": "set"}, {**same, "up": "Up"}, {**same, "q": "q"}, {"up": "up", "set": "set"}, list(same),
            {**same, "up": None}, {**same, "up": ["x"]}, {"up": "a", "set": "b", "more": "c", "q": "d"},
            {"up": "a", "set": "b", "more": "c", True: "d"}, {"up": "a", "set": "b", "more": "c", "end": "abcdefghi"}]
        check_wrong(self, with_names, {"book": store_book(), "sent": same},
                    {"book": (InvalidBook, no_books()), "sent": (InvalidMap, wrong)})
        check_wrong(self, log_sent, {"book": store_book(), "log": LOG, "sent": same},
                    {**wrong_of_logs("log"), "sent": (InvalidMap, wrong)})

    def test_what_was_passed_may_be_changed(self):
        sent = {name: name for name in NAMES}
        book = with_names(store_book(), sent)
        sent["up"] = "down"
        self.assertEqual(book, store_book())


class Mirrored(unittest.TestCase):
    def test_the_same_entries_from_behind(self):
        for rule in [store_rule(), pages_rule(), Rule(last_kinds("ab"), [("a", "b")], [("a", "a"), ("b", "b")])]:
            mirror = kind_book(mirrored_rule(rule))
            for log in rows(rule.kinds(), 4):
                turned = [mirrored_strike(strike, len(log)) for strike in strikes(kind_book(rule), log)]
                self.assertEqual(sorted(turned), strikes(mirror, log[::-1]))
                for strike in strikes(kind_book(rule), log):
                    other = mirrored_strike(strike=strike, size=len(log))
                    self.assertEqual(log_behind(mirror, log[::-1], other)[::-1], log_behind(kind_book(rule), log, strike))
                    self.assertEqual(mirrored_strike(other, len(log)), strike)

    def test_longer_logs(self):
        self.assertEqual(mirrored_strike(("cover", 1, 2, 4), 4), ("stop", 0, 2, 3))
        self.assertEqual(mirrored_strike(("stop", 1, 2, 4), 10 ** 29), ("cover", 10 ** 29 - 4, 10 ** 29 - 2, 10 ** 29 - 1))

    def test_wrong_arguments(self):
        check_wrong(self, mirrored_strike, {"strike": ("stop", 0, 1, 3), "size": 3},
                    {"strike": (InvalidStrike, no_strikes()), "size": (InvalidCount, [2, 0] + no_counts())})


class TheExamples(unittest.TestCase):
    def test_those_of_the_document(self):
        pages = Kinds({(x, y): x if x == y else "w" for x in "lmw" for y in "lmw"})
        book = Book(Rule(pages, [("l", "w"), ("m", "m")], []), {"line": "l", "more": "l", "mark": "m", "whole": "w"})
        log = ["mark", "line", "mark", "more"]
        self.assertEqual(
            [kinds_of(book, log), kind_of(book, log, (1, 4)), strikes(book, log), log_behind(book, log, ("cover", 1, 2, 4)), taken(("cover", 1, 2, 4)), taken(("stop", 1, 2, 4))],
            [['m', 'l', 'm', 'l'], 'w', [('cover', 1, 2, 4)], ['mark', 'mark', 'more'], (1, 2), (2, 4)])
        self.assertEqual(
            [after(book, log, [("cover", 1, 2, 4), ("cover", 0, 1, 2)]), log_of(book, log, [0, 3]), log_without(book, log, [0]), mirrored_strike(("cover", 1, 2, 4), 4)],
            [(['mark', 'more'], [2, 3]), ['mark', 'more'], ['line', 'mark', 'more'], ('stop', 0, 2, 3)])
        loose = Book(Rule(Kinds({("a", "a"): "a"}), [("a", "a")], [("a", "a")]), {"x": "a", "y": "a"})
        self.assertEqual(
            [strikes(loose, ["x", "y"]), by_kinds(book).names(), with_names(loose, {"x": "y", "y": "z"}).names(), log_sent(loose, ["x", "y", "x"], {"x": "y", "y": "z"})],
            [[('cover', 0, 1, 2), ('stop', 0, 1, 2)], {'l': 'l', 'm': 'm', 'w': 'w'}, {'y': 'a', 'z': 'a'}, ['y', 'z', 'y']])


if __name__ == "__main__":
    unittest.main()
