import itertools
import unittest

from logcores.cores import (core, fewest_striking, fewest_strikes, from_ahead, from_behind, is_core, is_fewest_striking,
                            is_reason, is_striking, kept, reason, striking, sure_places, witnesses)
from logcores.errors import InvalidPlaces, Unsettled
from logcores.forced import forced_rule
from logcores.kinds import Kinds
from logcores.logs import Book, after, kinds_of
from logcores.rules import Rule
from logcores.settled import is_settled
from tests.helper import (any_objects, bent, check_judge, check_told, check_wrong, last_kinds, pages_rule, raised, ring_book,
                          short_book, short_rule, store_book, store_rule, wild_book, wild_rule, wrong_of_logs)
from tests.oracle import all_rules, core_of, ends_of, left_behind, out_of, rows, strikes_on

LOG = ["up", "set", "more", "up", "end", "up"]


def kind_book(rule):
    return Book(rule, {kind: kind for kind in rule.kinds().words()})


def settled_rules():
    found = [rule for rule in all_rules("ab") if is_settled(rule)]
    return found + [store_rule(), pages_rule(), short_rule(), forced_rule(wild_rule())]


def in_order(test, rule, log, strikes):
    """The places left behind strikes, each of which has to fit what is there."""
    places = list(range(len(log)))
    for strike in strikes:
        test.assertIn(strike, strikes_on(rule, [log[place] for place in places]))
        places = left_behind(places, strike)
    return places


def no_struck_places():
    """What is no place of a log of six entries."""
    return any_objects_but_places() + [6, -1, 10 ** 29, "0", [0], (1,), False, True]


def any_objects_but_places():
    return [value for value in any_objects() if value is True or value is False or value not in range(6)]


class TheCore(unittest.TestCase):
    def test_the_core_by_whatever_order_of_strikes(self):
        for rule in settled_rules():
            book = kind_book(rule)
            for log in rows(rule.kinds(), 5):
                ends = ends_of(rule, log) if len(log) < 5 else [core_of(rule, log)]
                self.assertEqual([kept(book, log)], ends)
                self.assertEqual(core(book, log), [log[place] for place in ends[0]])
                self.assertIs(is_core(book, log), len(ends[0]) == len(log))

    def test_logs_of_forty_entries(self):
        for rule, words in ((pages_rule(), "lmlwmmlwll"), (store_rule(), "asazsaaazz"), (pages_rule(), "lllmlllmll")):
            log = list(words * 4)
            self.assertEqual(kept(kind_book(rule), log), core_of(rule, log))
            self.assertEqual(kept(kind_book(rule), log[::-1]), core_of(rule, log[::-1]))

    def test_four_kinds(self):
        book = kind_book(Rule(last_kinds("abcd"), [], [("a", "a")]))
        self.assertIs(is_settled(book.rule()), True)
        for log in (list("abbaccdcbbadda"), list("bbacaadabc")):
            self.assertEqual([kept(book, log)], [core_of(book.rule(), log)])
        self.assertEqual(core(book, list("bacada")), list("ba"))

    def test_names_hang_on_kinds_alone(self):
        book = store_book()
        self.assertEqual(core(book=book, log=LOG), ["end"])
        self.assertEqual(kept(book=book, log=LOG), [4])
        self.assertEqual(core(book, ["set", "up", "more", "up"]), ["set", "up", "more", "up"])
        self.assertEqual([is_core(book=book, log=["end", "more"]), is_core(book, ["set", "more"])], [False, True])

    def test_the_empty_log_is_a_core(self):
        book = store_book()
        self.assertEqual([core(book, []), kept(book, []), is_core(book, []), striking(book, []), fewest_strikes(book, [])],
                         [[], [], True, [], 0])

    def test_wrong_arguments(self):
        for call in (core, kept, is_core, striking, fewest_strikes, fewest_striking, from_behind, from_ahead):
            check_wrong(self, call, {"book": store_book(), "log": LOG}, wrong_of_logs("log"))
            book = wild_book()
            check_wrong(self, call, {"book": book, "log": ["p", "r"]}, wrong_of_logs("log"), (Unsettled, book))

    def test_what_is_returned_may_be_changed(self):
        book, log = store_book(), ["set", "up"]
        for call in (core, kept, striking, fewest_striking, from_behind, from_ahead):
            told = call(book, log)
            told.clear()
            self.assertEqual(log, ["set", "up"])
        from_behind(book, log)[0].clear()
        self.assertEqual(from_behind(book, log), [["set", "up"], ["up"], []])


def core_by(book, log):
    return [log[place] for place in core_of(book.rule(), kinds_of(book, list(log)))]


class Strikings(unittest.TestCase):
    def test_any_and_fewest(self):
        for rule in settled_rules():
            book = kind_book(rule)
            for log in rows(rule.kinds(), 4):
                ends = ends_of(rule, log)
                told = striking(book, log)
                self.assertEqual([in_order(self, rule, log, told)], ends)
                self.assertIs(is_striking(book, log, told), True)
                few = fewest_striking(book, log)
                self.assertEqual([in_order(self, rule, log, few)], ends)
                self.assertEqual((len(few), fewest_strikes(book, log)), (self.fewest(rule, log),) * 2)
                self.assertIs(is_fewest_striking(book, log, few), True)
                self.assertIs(is_fewest_striking(book, log, told), len(told) == len(few))

    def fewest(self, rule, log):
        found = strikes_on(rule, log)
        return 1 + min(self.fewest(rule, left_behind(log, strike)) for strike in found) if found else 0

    def test_eight_entries(self):
        for rule, word in ((pages_rule(), "mlmlmlml"), (store_rule(), "asaazaas"), (pages_rule(), "mmmmmmmm")):
            told = fewest_striking(kind_book(rule), list(word))
            self.assertEqual(in_order(self, rule, list(word), told), core_of(rule, list(word)))
            self.assertEqual(fewest_strikes(book=kind_book(rule), log=list(word)), len(told))

    def test_all_lists_of_strikes_are_judged(self):
        book, log = kind_book(pages_rule()), list("mlml")
        few = fewest_strikes(book, log)
        pairs = itertools.combinations(range(5), 3)
        every = [(word, *counts) for counts in pairs for word in ("cover", "stop")]
        for size in range(4):
            for made in itertools.product(every, repeat=size):
                good = self.leads_to_core(book.rule(), log, made)
                self.assertIs(is_striking(book, log, list(made)), good)
                self.assertIs(is_fewest_striking(book, log, list(made)), good and size == few)

    def leads_to_core(self, rule, log, made):
        for strike in made:
            if strike not in strikes_on(rule, log):
                return False
            log = left_behind(log, strike)
        return strikes_on(rule, log) == []

    def test_they_judge_any_object(self):
        book, log = store_book(), ["up", "set", "up", "end"]
        right = [[("cover", 0, 3, 4)], [("cover", 0, 1, 2), ("cover", 0, 2, 3)], [("cover", 2, 3, 4), ("cover", 0, 2, 3)]]
        wrong = bent(right[0]) + bent(right[1]) + [[("cover", 0, 1, 2)], [], [("cover", 0, 1, 2), ("cover", 0, 3, 4)]]
        check_judge(self, lambda value: is_striking(book, log, value), right, wrong)
        check_judge(self, lambda value: is_fewest_striking(book, log, value), right[:1], wrong + right[1:])
        self.assertIs(is_striking(book=book, log=log, value=right[1]), True)
        self.assertIs(is_fewest_striking(book=book, log=log, value=right[0]), True)
        self.assertIs(is_striking(book, ["set"], []), True)
        self.assertIs(is_fewest_striking(book, [], []), True)

    def test_wrong_arguments(self):
        for call in (is_striking, is_fewest_striking):
            check_wrong(self, call, {"book": store_book(), "log": LOG, "value": None}, wrong_of_logs("log"))
            book = wild_book()
            check_wrong(self, call, {"book": book, "log": ["p"], "value": None}, wrong_of_logs("log"), (Unsettled, book))


class Reasons(unittest.TestCase):
    def test_the_last_strike_alone_takes_the_entry(self):
        for rule in settled_rules():
            book = kind_book(rule)
            for log in rows(rule.kinds(), 4):
                for place in set(range(len(log))) - set(core_of(rule, log)):
                    told = reason(book, log, place)
                    before = in_order(self, rule, log, told[:-1])
                    self.assertIn(place, before)
                    self.assertNotIn(place, in_order(self, rule, log, told))
                    self.assertIs(is_reason(book, log, place, told), True)
                    for other in range(len(told)):
                        self.assertIs(is_reason(book, log, place, told[:other]), False)
                    more = strikes_on(rule, [log[at] for at in in_order(self, rule, log, told)])
                    if more:
                        self.assertIs(is_reason(book, log, place, told + more[:1]), False)

    def test_it_judges_any_object(self):
        book, log = kind_book(pages_rule()), list("mlml")
        right = [[("cover", 1, 2, 4), ("cover", 0, 1, 2)]]
        wrong = bent(right[0]) + [[], [("cover", 1, 2, 4)], right[0] + [("cover", 0, 1, 2)], [right[0][1]]]
        check_judge(self, lambda value: is_reason(book, log, 0, value), right, wrong)
        self.assertIs(is_reason(book=book, log=log, place=1, value=[("cover", 1, 2, 4)]), True)
        self.assertIs(is_reason(book, log, 1, right[0]), False)
        self.assertEqual(out_of(("cover", 1, 2, 4)), range(1, 2))

    def test_more_than_the_place_may_be_taken_by_the_last_one(self):
        self.assertIs(is_reason(store_book(), LOG, 1, [("cover", 0, 4, 5)]), True)

    def test_wrong_arguments(self):
        self.check_places(reason, {})
        self.check_places(is_reason, {"value": None})

    def check_places(self, call, more):
        wrong = {**wrong_of_logs("log"), "place": (InvalidPlaces, no_struck_places() + [4])}
        check_wrong(self, call, {"book": store_book(), "log": LOG, "place": 3, **more}, wrong)
        book, places = wild_book(), no_struck_places()
        for place in range(6):
            check_wrong(self, call, {"book": book, "log": ["p", "q", "p", "q", "p", "p"], "place": place, **more},
                        {**wrong_of_logs("log"), "place": (InvalidPlaces, places)}, (Unsettled, book))

    def test_witnesses_and_sure_places_take_the_same(self):
        self.check_places(witnesses, {})
        self.check_places(sure_places, {})
        for call in (reason, witnesses, sure_places):
            check_told(self, raised(call, store_book(), [], 0), InvalidPlaces, 0)
            check_told(self, raised(call, store_book(), ["set", "up"], 1), InvalidPlaces, 1)


class Witnesses(unittest.TestCase):
    def by_all_lists(self, rule, log, place):
        """Those lists of other places that strike the entry, and none of whose parts does."""
        others = [other for other in range(len(log)) if other != place]
        parts = [part for size in range(len(log)) for part in itertools.combinations(others, size)]
        striking = [part for part in parts if self.is_struck(rule, log, place, part)]
        return sorted(list(part) for part in striking if not any(set(less) < set(part) for less in striking))

    def is_struck(self, rule, log, place, part):
        places = sorted([place, *part])
        return place not in [places[at] for at in core_of(rule, [log[other] for other in places])]

    def test_all_of_them_and_what_is_in_each(self):
        for rule in settled_rules()[::2] + [pages_rule()]:
            book = kind_book(rule)
            for log in rows(rule.kinds(), 4):
                for place in set(range(len(log))) - set(core_of(rule, log)):
                    found = self.by_all_lists(rule, log, place)
                    self.assertGreater(len(found), 0)
                    self.assertEqual(witnesses(book, log, place), found)
                    sure = set.intersection(*[set(one) for one in found])
                    self.assertEqual(sure_places(book, log, place), sorted(sure))

    def test_nine_entries(self):
        for rule, word in ((store_rule(), "asaazaasa"), (pages_rule(), "mlmlwmlmw")):
            book, log = kind_book(rule), list(word)
            for place in sorted(set(range(9)) - set(core_of(rule, log))):
                found = witnesses(book=book, log=log, place=place)
                self.assertEqual(found, self.by_all_lists(rule, log, place))
                self.assertEqual(sure_places(book=book, log=log, place=place),
                                 [other for other in range(9) if all(other in one for one in found)])

    def test_what_is_returned_may_be_changed(self):
        book, log = kind_book(store_rule()), list("asaazaasa")
        witnesses(book, log, 0)[0].clear()
        sure_places(book, log, 4).clear()
        self.assertEqual((witnesses(book, log, 0), sure_places(book, log, 4)), ([[1], [4], [7]], [7]))


class EndsAndBeginnings(unittest.TestCase):
    def test_the_cores_of_all(self):
        for rule in settled_rules():
            book = kind_book(rule)
            for log in rows(rule.kinds(), 4):
                ends = [core_by(book, log[at:]) for at in range(len(log) + 1)]
                starts = [core_by(book, log[:at]) for at in range(len(log) + 1)]
                self.assertEqual(from_behind(book, log), ends)
                self.assertEqual(from_ahead(book, log), starts)

    def test_by_name_and_of_the_empty_log(self):
        self.assertEqual(from_behind(book=store_book(), log=["up", "set"]), [["set"], ["set"], []])
        self.assertEqual(from_ahead(book=store_book(), log=["set", "up"]), [[], ["set"], ["set", "up"]])
        self.assertEqual((from_behind(ring_book(), []), from_ahead(short_book(), [])), ([[]], [[]]))


class TheExamples(unittest.TestCase):
    def test_those_of_the_document(self):
        states = Kinds({("a", "a"): "a", ("a", "s"): "s", ("a", "z"): "z", ("s", "a"): "s", ("s", "s"): "s", ("s", "z"): "z", ("z", "a"): "z", ("z", "s"): "s", ("z", "z"): "z"})
        book = Book(Rule(states, [("a", "s"), ("a", "z"), ("s", "s"), ("s", "z"), ("z", "s"), ("z", "z")], [("z", "a")]), {"a": "a", "s": "s", "z": "z"})
        log = list("asaazaasa")
        self.assertEqual(
            [core(book, log), kept(book, log), fewest_strikes(book, log[:8]), is_striking(book, log, [("cover", 0, 7, 8)]), witnesses(book, log, 0), witnesses(book, log, 5), sure_places(book, log, 4)],
            [['s', 'a'], [7, 8], 1, True, [[1], [4], [7]], [[4], [7]], [7]])
        pages = Kinds({(x, y): x if x == y else "w" for x in "lmw" for y in "lmw"})
        paged = Book(Rule(pages, [("l", "w"), ("m", "m")], []), {"l": "l", "m": "m", "w": "w"})
        self.assertEqual(
            [core(paged, list("mlml")), fewest_strikes(paged, list("mlml")), witnesses(paged, list("mlml"), 0), is_reason(paged, list("mlml"), 0, [("cover", 1, 2, 4), ("cover", 0, 1, 2)]), ["".join(late) for late in from_behind(paged, list("mlml"))], ["".join(late) for late in from_ahead(paged, list("mlml"))]],
            [['m', 'l'], 2, [[2]], True, ['ml', 'ml', 'ml', 'l', ''], ['', 'm', 'ml', 'mlm', 'ml']])

    def test_of_a_rule_that_is_not_settled_the_forced_rule_tells(self):
        book = Book(forced_rule(wild_rule()), short_book().names())
        self.assertEqual(core(book, ["p", "q", "s", "r", "p"]), ["r", "p"])
        after_all = after(wild_book(), ["p", "q", "s", "r", "p"], [])
        self.assertEqual(after_all, (["p", "q", "s", "r", "p"], [0, 1, 2, 3, 4]))


if __name__ == "__main__":
    unittest.main()
