import itertools
import unittest

from logcores.alike import (are_alike, is_lead, is_road, lead, led, many_alike, parting_end, repeated, road, rounds,
                            same_ends)
from logcores.errors import Apart, Boundless, InvalidCount, InvalidLog, Unsettled
from logcores.kinds import Kinds
from logcores.logs import Book
from logcores.rules import Rule
from logcores.settled import is_settled
from tests.helper import (bent, check_judge, check_told, check_wrong, no_counts, no_logs, pages_rule,
                          raised, ring_book, short_book, store_book, tall_book, wild_book, wrong_of_logs)
from tests.oracle import all_rules, core_names, left_behind, logs_of, out_of, strikes_on


def two_named(rule):
    """A book with two names of the first kind of a rule, the second one behind all others."""
    kinds = rule.kinds().words()
    return Book(rule, {**{kind: kind for kind in kinds}, "zz": kinds[0]})


def settled_books():
    return [two_named(rule) for rule in all_rules("ab") if is_settled(rule)] + [store_book(), short_book(), tall_book()]


def bounded_books():
    """Books of rules whose cores have at most two, four and one entries, with several names of a kind."""
    one = Rule(Kinds({(x, y): x for x in "ab" for y in "ab"}), [], [(x, y) for x in "ab" for y in "ab"])
    two = Rule(Kinds({(x, y): "a" for x in "ab" for y in "ab"}), [], [("a", "a"), ("a", "b")])
    return [short_book(), tall_book(), two_named(one), two_named(two), Book(Rule(Kinds({("a", "a"): "a"}), [("a", "a")], []), {"x": "a"})]


def steps_made(test, book, one, other, steps):
    """Make the steps of a road by the words of the document; the sizes of all logs on it."""
    log, sizes = list(one), [len(one)]
    for step in steps:
        row = [book.names()[name] for name in log]
        if step[0] == "out":
            test.assertIn(step[1], strikes_on(book.rule(), row))
            log = left_behind(log, step[1])
        else:
            word, strike, names = step
            test.assertEqual((word, len(names)), ("in", len(out_of(strike))))
            made = list(log)
            made[out_of(strike)[0]:out_of(strike)[0]] = names
            test.assertIn(strike, strikes_on(book.rule(), [book.names()[name] for name in made]))
            test.assertEqual(left_behind(made, strike), log)
            log = made
        sizes.append(len(log))
    test.assertEqual(log, other)
    return sizes


class Alike(unittest.TestCase):
    def test_by_their_cores(self):
        for book in settled_books():
            logs = logs_of(book, 3 if len(book.names()) < 4 else 2)
            cores = [core_names(book, log) for log in logs]
            for one, core in zip(logs, cores):
                for other, there in zip(logs, cores):
                    self.assertIs(are_alike(book, one, other), core == there)

    def test_names_count_and_not_only_kinds(self):
        self.assertIs(are_alike(short_book(), ["p"], ["s"]), False)
        self.assertIs(are_alike(book=short_book(), one=["p", "s"], other=["s"]), True)
        self.assertIs(are_alike(short_book(), [], ["p"]), False)
        self.assertIs(are_alike(short_book(), [], []), True)

    def test_wrong_arguments(self):
        for call in (are_alike, road, same_ends, parting_end):
            good = {"one": ["p", "s", "r"], "other": ["s", "r"]}
            check_wrong(self, call, {"book": short_book(), **good}, wrong_of_logs("one", "other"))
            book = wild_book()
            check_wrong(self, call, {"book": book, **good}, wrong_of_logs("one", "other"), (Unsettled, book))


class Roads(unittest.TestCase):
    def test_roads_lead_there_and_are_never_longer_than_the_longer_log(self):
        for book in settled_books()[::5] + [store_book(), tall_book()]:
            logs = logs_of(book, 3)[::3]
            for one, other in itertools.product(logs, logs):
                if core_names(book, one) == core_names(book, other):
                    told = road(book, one, other)
                    sizes = steps_made(self, book, one, other, told)
                    self.assertLessEqual(max(sizes), max(len(one), len(other)))
                    self.assertIs(is_road(book, one, other, told), True)
                    self.assertIs(is_road(book, one, other, told[:-1]), len(told) == 0)
                else:
                    check_told(self, raised(road, book, one, other), Apart, other)

    def test_long_logs_in_both_directions(self):
        book = Book(pages_rule(), {"line": "l", "mark": "m", "page": "w"})
        one = ["mark", "line", "mark", "line", "line", "page"] * 4
        other = core_names(book, one)
        for start, end in ((one, other), (other, one), (one, one), (one, ["mark"] + other), (other, other)):
            told = road(book=book, one=start, other=end)
            steps_made(self, book, start, end, told)
            self.assertIs(is_road(book=book, one=start, other=end, value=told), True)
        self.assertEqual(road(book, other, other), [])
        self.assertEqual(road(book, [], []), [])

    def test_all_single_steps_are_judged(self):
        book = two_named(pages_rule())
        names, every = list(book.names()), [("cover", *c) for c in itertools.combinations(range(5), 3)]
        for log in logs_of(book, 2):
            for strike in every:
                for size in (1, 2):
                    for block in itertools.product(names, repeat=size):
                        first = out_of(strike)[0]
                        made = log[:first] + list(block) + log[first:]
                        good = (len(out_of(strike)) == size and first <= len(log)
                                and strike in strikes_on(book.rule(), [book.names()[name] for name in made]))
                        self.assertIs(is_road(book, log, made, [("in", strike, list(block))]), good)
                        self.assertIs(is_road(book, made, log, [("out", strike)]), good)

    def test_longer_ways_round_are_roads_too(self):
        book, out, back = store_book(), ("out", ("cover", 0, 1, 2)), ("in", ("cover", 0, 1, 2), ["up"])
        self.assertIs(is_road(book, ["up", "set"], ["set"], [out, back, out]), True)
        self.assertIs(is_road(book, ["set"], ["set"], [back, ("in", ("cover", 0, 2, 4), ["up", "up"]), ("out", ("cover", 0, 3, 4))]), True)
        self.assertIs(is_road(book, ["up", "set"], ["set"], [out, back]), False)

    def test_logs_that_are_not_alike_have_no_road_and_neither_error_is_raised(self):
        self.assertIs(is_road(store_book(), ["up"], ["set"], []), False)
        for value in ([], [("out", ("cover", 0, 1, 2))], [("in", ("cover", 0, 1, 2), ["p"])], None):
            self.assertIs(is_road(wild_book(), ["p"], ["r"], value), False)
        self.assertIs(is_road(wild_book(), ["p", "s"], ["s"], [("out", ("cover", 0, 1, 2))]), True)
        self.assertIs(is_road(wild_book(), ["s"], ["p", "s"], [("in", ("cover", 0, 1, 2), ["p"])]), True)

    def test_it_judges_any_object(self):
        book = store_book()
        right = [("out", ("cover", 0, 2, 3)), ("in", ("cover", 0, 1, 2), ["more"])]
        wrong = bent(right) + [[], right[:1], right[::-1], [right[0], ("in", ("cover", 0, 1, 2), ["up"])],
                               [right[0], ("in", ("cover", 0, 1, 2), ["more", "more"])], [right[0], ("in", ("cover", 0, 1, 2), [])],
                               [right[0], ("in", ("cover", 0, 1, 2))], [("out", *right[0][1:], ["up"]), right[1]],
                               [right[0], ("in", ("cover", 0, 1, 2), ("more",))], [right[0], ("in", ("cover", False, True, 2), ["more"])],
                               [("in", *right[0][1:]), right[1]], [right[0], ("out", *right[1][1:])], [list(right[0]), right[1]]]
        check_judge(self, lambda value: is_road(book, ["up", "up", "set"], ["more", "set"], value), [right], wrong)
        check_judge(self, lambda value: is_road(book, ["set"], ["set"], value), [[]], [right])

    def test_wrong_arguments(self):
        for book in (short_book(), wild_book()):
            good = {"book": book, "one": ["p", "s", "r"], "other": ["p"], "value": None}
            check_wrong(self, is_road, good, wrong_of_logs("one", "other"))
        check_wrong(self, road, {"book": short_book(), "one": ["q"], "other": good["other"]},
                    wrong_of_logs("one", "other"), (Apart, good["other"]))
        check_told(self, raised(road, book, ["q"], ["p"]), Unsettled, book)

    def test_what_is_returned_may_be_changed(self):
        book, one, other = store_book(), ["set"], ["up", "set"]
        told = road(book, one, other)
        told[0][2].clear()
        told.clear()
        self.assertEqual((one, other, len(road(book, one, other))), (["set"], ["up", "set"], 1))


class Numbers(unittest.TestCase):
    def test_how_many_logs_are_alike(self):
        for book in bounded_books():
            for size in range(5):
                logs = logs_of(book, size, size)
                cores = [core_names(book, log) for log in logs]
                for log in logs_of(book, 2):
                    self.assertEqual(many_alike(book, log, size), cores.count(core_names(book, log)))

    def test_over_all_cores_they_add_up(self):
        for book in bounded_books():
            cores = {tuple(core_names(book, log)) for log in logs_of(book, 4)}
            for size in (0, 1, 5, 12, 27):
                self.assertEqual(sum(many_alike(book, list(core), size) for core in cores), len(book.names()) ** size)
        self.assertEqual(many_alike(book=short_book(), log=["p"], size=0), 0)
        self.assertEqual(many_alike(short_book(), [], 0), 1)

    def test_repeated(self):
        for book in settled_books()[::3] + [store_book()]:
            for log in logs_of(book, 2):
                for times in range(5):
                    self.assertEqual(repeated(book, log, times), core_names(book, log * times))
        self.assertEqual(repeated(book=ring_book(), log=["q"], times=40), ["q"] * 40)
        self.assertEqual(repeated(ring_book(), ["q", "r"], 20), ["q", "r"] * 20)
        self.assertEqual(repeated(ring_book(), ["p", "q"], 20), core_names(ring_book(), ["p", "q"] * 20))
        self.assertEqual(repeated(store_book(), [], 60), [])
        self.assertEqual(repeated(store_book(), [], 10 ** 29), [])

    def test_rounds(self):
        for book in bounded_books():
            for log in logs_of(book, 3, 1):
                cores = [core_names(book, log)]
                while len(cores) < 13:
                    cores.append(core_names(book, cores[-1] + log))
                least = min((ahead, turn) for ahead in range(1, 7) for turn in range(1, 7) if cores[ahead - 1] == cores[ahead + turn - 1])
                self.assertEqual(rounds(book, log), least)
        self.assertEqual(rounds(book=tall_book(), log=["q"]), rounds(tall_book(), ["q"]))

    def test_led(self):
        for book in bounded_books():
            for log in logs_of(book, 2):
                cores = {tuple(core_names(book, log + end)) for end in logs_of(book, 4 if len(book.names()) < 4 else 3)}
                bigger = {tuple(core_names(book, [*core, name])) for core in cores for name in book.names()} | cores
                self.assertEqual(led(book, log), len(bigger))
        self.assertEqual(led(book=short_book(), log=[]), 1 + 4 + 2 + 2 + 2 + 1)

    def test_wrong_arguments(self):
        for call, name in ((many_alike, "size"), (repeated, "times")):
            wrong = {**wrong_of_logs("log"), name: (InvalidCount, no_counts())}
            check_wrong(self, call, {"book": short_book(), "log": ["p"], name: 3}, wrong)
            book = wild_book()
            check_wrong(self, call, {"book": book, "log": ["p"], name: 3}, wrong, (Unsettled, book))
        book = ring_book()
        check_wrong(self, many_alike, {"book": book, "log": ["p"], "size": 3},
                    {**wrong_of_logs("log"), "size": (InvalidCount, no_counts())}, (Boundless, book))
        for call, wrong in ((rounds, {**wrong_of_logs("log"), "log": (InvalidLog, [[]] + no_logs())}), (led, wrong_of_logs("log"))):
            check_wrong(self, call, {"book": short_book(), "log": ["p"]}, wrong)
            for book, error in ((wild_book(), Unsettled), (ring_book(), Boundless)):
                check_wrong(self, call, {"book": book, "log": ["p"]}, wrong, (error, book))


class Leads(unittest.TestCase):
    def shortest(self, book, one, other):
        """All shortest logs by trying all logs of up to four entries."""
        goal = core_names(book, other)
        for size in range(5):
            found = [log for log in logs_of(book, size, size) if core_names(book, one + log) == goal]
            if found:
                return found
        return []

    def test_shortest_ones(self):
        for book in bounded_books():
            logs = logs_of(book, 2)
            for one, other in list(itertools.product(logs, logs))[::11]:
                found, told = self.shortest(book, one, other), lead(book, one, other)
                self.assertIs(told is None, found == [])
                if found:
                    self.assertIn(told, found)
                for value in logs:
                    self.assertIs(is_lead(book, one, other, value), value in found)

    def test_the_empty_one_for_alike_logs(self):
        self.assertEqual(lead(book=short_book(), one=["p", "s"], other=["s"]), [])
        self.assertIs(is_lead(book=short_book(), one=["p", "s"], other=["s"], value=[]), True)
        self.assertIs(is_lead(short_book(), ["p", "s"], ["s"], ["s"]), False)
        self.assertIs(lead(short_book(), ["p"], []), None)
        self.assertEqual(lead(short_book(), [], ["p", "q"]), ["p", "q"])

    def test_it_judges_any_object(self):
        wrong = bent(["r", "p"]) + no_logs() + [["r"], ["p"], ["r", "s"], ["r", "r", "p"], [], ["q", "r", "p"]]
        check_judge(self, lambda value: is_lead(short_book(), ["p"], ["r", "p"], value), [["r", "p"]], wrong)
        check_judge(self, lambda value: is_lead(short_book(), ["p"], ["q"], value), [], [[], ["q"], None])

    def test_wrong_arguments(self):
        for call, more in ((lead, {}), (is_lead, {"value": None})):
            good = {"one": ["p"], "other": ["r", "p"], **more}
            check_wrong(self, call, {"book": short_book(), **good}, wrong_of_logs("one", "other"))
            for book, error in ((wild_book(), Unsettled), (ring_book(), Boundless)):
                check_wrong(self, call, {"book": book, **good}, wrong_of_logs("one", "other"), (error, book))


class SameEnds(unittest.TestCase):
    def test_by_all_logs_behind(self):
        for book in settled_books()[::2]:
            ends = logs_of(book, 2, 1)
            logs = logs_of(book, 2)
            for one, other in list(itertools.product(logs, logs))[::3]:
                parting = [end for end in ends if core_names(book, one + end) != core_names(book, other + end)]
                self.assertIs(same_ends(book, one, other), parting == [])
                told = parting_end(book, one, other)
                if parting:
                    self.assertIn(told, [end for end in parting if len(end) == len(parting[0])])
                else:
                    self.assertIs(told, None)

    def test_cores_need_not_be_bounded_nor_logs_alike(self):
        self.assertIs(same_ends(book=short_book(), one=["p", "q"], other=["q", "p"]), True)
        self.assertIs(are_alike(short_book(), ["p", "q"], ["q", "p"]), False)
        self.assertEqual(len(parting_end(book=ring_book(), one=["q"], other=["r"])), 1)
        self.assertIs(parting_end(ring_book(), ["p", "s"], ["p"]), None)


class TheExamples(unittest.TestCase):
    def test_those_of_the_document(self):
        pages = Kinds({(x, y): x if x == y else "w" for x in "lmw" for y in "lmw"})
        paged = Book(Rule(pages, [("l", "w"), ("m", "m")], []), {"l": "l", "m": "m", "w": "w"})
        self.assertEqual(
            [are_alike(paged, list("mlml"), list("ml")), is_road(paged, list("ml"), list("mml"), [("in", ("cover", 0, 1, 2), ["m"])]), repeated(paged, ["l", "m"], 3)],
            [True, True, ['m', 'l', 'm']])
        few = Kinds({(x, y): x if x == y else "c" for x in "abc" for y in "abc"})
        short = Book(Rule(few, [("a", "a"), ("a", "c"), ("b", "b"), ("b", "c"), ("c", "c")], []), {"a": "a", "b": "b", "c": "c"})
        self.assertEqual(
            [rounds(short, ["a"]), lead(short, ["a"], ["b"]), lead(short, ["a"], ["c", "a"]), is_lead(short, ["a"], ["c", "a"], ["c", "c", "a"]), led(short, ["c"]), same_ends(short, ["a", "b"], ["b", "a"]), are_alike(short, ["a", "b"], ["b", "a"]), len(parting_end(short, ["a"], ["c"])), many_alike(short, ["c"], 3)],
            [(1, 1), None, ['c', 'a'], False, 5, True, False, 1, 9])


if __name__ == "__main__":
    unittest.main()
