import unittest

from logcores.errors import InvalidPairs, InvalidWord
from logcores.forced import force_of, forced_pairs, forced_rule, is_force, settled_within
from logcores.kinds import Kinds, can_cover, can_stop
from logcores.rules import Rule, is_within, meet_rule, mirrored_rule, rule_with, rule_without, union_rule
from logcores.settled import is_settled
from tests.helper import (any_objects, bent, check_judge, check_wrong, few_kinds, last_kinds, pages_rule, short_rule,
                          store_rule, wild_rule, wrong_of_rule)
from tests.oracle import all_rules, forces_on, parts_of, rows, settles


def rules():
    return list(all_rules("ab")) + [wild_rule(), store_rule(), pages_rule()]


def all_forces(rule, longest=5):
    """All forces by rows of up to so many entries, those of the shortest rows first."""
    return [force for row in rows(rule.kinds(), longest) for force in forces_on(rule, row)]


def pair_of(force):
    word, row, first, second = force
    return word, (row[first], row[second])


def pairs_by(rule, forces):
    pairs = sorted({pair_of(force) for force in forces})
    return ([pair for word, pair in pairs if word == "cover" and pair not in rule.covers()],
            [pair for word, pair in pairs if word == "stop" and pair not in rule.stops()])


class Forces(unittest.TestCase):
    def test_those_of_each_row_and_no_others(self):
        for rule in list(all_rules("ab"))[::2] + [wild_rule()]:
            for row in rows(rule.kinds(), 4):
                found = forces_on(rule, row)
                for word in ("cover", "stop"):
                    for first in range(len(row)):
                        for second in range(len(row)):
                            force = (word, row, first, second)
                            self.assertIs(is_force(rule, force), force in found)

    def test_what_is_led_to_may_have_strikes_and_the_pair_may_be_the_rules_own(self):
        rule = Rule(few_kinds(), [("a", "a")], [("b", "b")])
        self.assertIs(is_force(rule, ("cover", ["a", "a"], 0, 1)), True)
        self.assertIs(is_force(rule, ("stop", ["b", "b"], 0, 1)), True)
        self.assertIs(is_force(rule, ("stop", ["a", "a"], 0, 1)), False)
        self.assertIs(is_force(rule, ("cover", ["a", "b"], 0, 1)), False)

    def test_longer_rows_are_judged_too(self):
        wild = wild_rule()
        for row in (["b", "a", "b", "c", "c"], ["a"] * 8, ["a", "b", "c", "a", "b", "c", "c"]):
            for force in forces_on(wild, row):
                self.assertIs(is_force(wild, force), True)

    def test_it_judges_any_object(self):
        wild, right = wild_rule(), ("cover", ["b", "c", "c"], 0, 2)
        wrong = bent(right) + [
            ("stop", *right[1:]), ("cover", ["b", "c", "c"], 2, 0), ("cover", ["b", "c", "c"], 1, 1), list(right),
            ("cover", ["b", "c", "c"], 0, 3), ("cover", [], 0, 1), ("cover", ["b", "c", "q"], 0, 2), right + (1,), right[1:],
            ("cover", ("b", "c", "c"), 0, 2), ("cover", ["b", "c", "c"], -3, 2), ("Cover", *right[1:]), (None, *right[1:]),
            ("cover", ["b", "c", "c"], False, 2), ("cover", ["c", "c"], False, True), ("cover", ["c", "c"], 0, True)]
        also = [("cover", ["b", "b", "c", "c"], 0, 2), ("cover", ["b", "c", "c", "c"], 0, 2)]
        wrong = [value for value in wrong if value not in also]
        check_judge(self, lambda value: is_force(wild, value), [right, ("cover", ["c", "c"], 0, 1)], wrong)
        self.assertIs(is_force(rule=wild, value=right), True)
        check_wrong(self, is_force, {"rule": wild, "value": None}, wrong_of_rule())


class ForcedPairs(unittest.TestCase):
    def test_by_all_forces(self):
        for rule in rules():
            forces = all_forces(rule)
            self.assertEqual(forced_pairs(rule), pairs_by(rule, forces))
            if is_settled(rule):
                self.assertEqual(forced_pairs(rule), ([], []))
            for word, allowed in (("cover", can_cover(rule.kinds())), ("stop", can_stop(rule.kinds()))):
                for pair in allowed:
                    shortest = [force for force in forces if pair_of(force) == (word, pair)]
                    told = force_of(rule, word, pair)
                    self.assertIs(told is None, shortest == [])
                    if told is not None:
                        self.assertIn(told, shortest)
                        self.assertEqual(len(told[1]), len(shortest[0][1]))

    def test_pairs_of_the_rule_are_forced_by_themselves(self):
        self.assertEqual(force_of(store_rule(), "cover", ("a", "z")), ("cover", ["a", "z"], 0, 1))
        self.assertEqual(force_of(rule=store_rule(), word="stop", pair=("z", "a")), ("stop", ["z", "a"], 0, 1))
        self.assertIs(force_of(store_rule(), "stop", ("a", "a")), None)

    def test_rows_of_six_entries_are_too_long(self):
        sent = {"a": "a", "b": "a", "c": "c"}
        kinds = Kinds({(x, y): "a" if sent[x] == sent[y] else "c" for x in "abc" for y in "abc"})
        rule = Rule(kinds, [("a", "a"), ("b", "c")], [("c", "b")])
        longer = [force for row in rows(kinds, 6) if len(row) == 6 for force in forces_on(rule, row)]
        longer = [force for force in longer if pair_of(force) == ("stop", ("a", "a"))]
        self.assertGreater(len(longer), 0)
        self.assertEqual({is_force(rule, force) for force in longer}, {True})
        self.assertIs(force_of(rule, "stop", ("a", "a")), None)
        self.assertNotIn(("a", "a"), forced_pairs(rule)[1])

    def test_what_is_returned_may_be_changed(self):
        wild = wild_rule()
        forced_pairs(rule=wild)[0].clear()
        force_of(wild, "cover", ("a", "a"))[1].clear()
        self.assertEqual((forced_pairs(wild), wild), (([("a", "c"), ("b", "c")], []), wild_rule()))
        self.assertEqual(force_of(wild, "cover", ("a", "a")), ("cover", ["a", "a"], 0, 1))

    def test_wrong_arguments(self):
        check_wrong(self, forced_pairs, {"rule": wild_rule()}, wrong_of_rule())
        words = [value for value in any_objects() if value != "cover"] + [("cover",), "stops", "Stop", ["stop"]]
        pairs = any_objects() + bent(("z", "a")) + [("a", "s"), ("s", "z"), ("z", "q"), ("a", "z"), ["s", "s"], ("s",), "ss"]
        pairs = [pair for pair in pairs if pair not in can_stop(store_rule().kinds())]
        check_wrong(self, force_of, {"rule": store_rule(), "word": "stop", "pair": ("z", "a")},
                    {**wrong_of_rule(), "word": (InvalidWord, words), "pair": (InvalidPairs, pairs)})
        pairs = [("s", "a"), ("z", "a"), ("q", "s"), ["a", "s"], ("a", "s", "s"), None, True, ("a", ["s"])]
        check_wrong(self, force_of, {"rule": store_rule(), "word": "cover", "pair": ("a", "s")},
                    {**wrong_of_rule(), "word": (InvalidWord, words), "pair": (InvalidPairs, pairs)})


class TheForcedRule(unittest.TestCase):
    def end_of(self, rule):
        """The same end by putting one pair in at a time, the last one first."""
        while True:
            covers, stops = pairs_by(rule, all_forces(rule))
            if stops:
                rule = rule_with(rule, [], stops[-1:])
            elif covers:
                rule = rule_with(rule, covers[-1:], [])
            else:
                return rule

    def test_one_end_whatever_is_put_in_first(self):
        for rule in list(all_rules("ab"))[::3] + [wild_rule(), store_rule()]:
            self.assertEqual(forced_rule(rule), self.end_of(rule))
            self.assertIs(is_within(rule, forced_rule(rule)), True)

    def test_settled_rules_stay_as_they_are(self):
        for rule in (store_rule(), pages_rule(), short_rule()):
            self.assertEqual(forced_rule(rule=rule), rule)

    def test_four_kinds(self):
        kinds = last_kinds("abcd")
        rule = Rule(kinds, [("a", "a"), ("a", "b"), ("b", "c"), ("c", "d"), ("d", "a")], [])
        self.assertEqual(forced_pairs(forced_rule(rule)), ([], []))

    def test_wrong_arguments(self):
        check_wrong(self, forced_rule, {"rule": wild_rule()}, wrong_of_rule())


class SettledWithin(unittest.TestCase):
    def all_within(self, rule):
        parts = [(covers, stops) for covers in parts_of(rule.covers()) for stops in parts_of(rule.stops())]
        return [part for part in parts if settles(Rule(rule.kinds(), *part))]

    def largest(self, rule):
        found = self.all_within(rule)
        return sorted(one for one in found if not any(
            one != other and set(one[0]) <= set(other[0]) and set(one[1]) <= set(other[1]) for other in found))

    def test_those_within_no_other_one(self):
        for rule in [rule for rule in all_rules("ab") if len(rule.covers()) + len(rule.stops()) <= 4][::3]:
            self.assertEqual(settled_within(rule), self.largest(rule))

    def test_three_kinds(self):
        for rule in (wild_rule(), short_rule(), Rule(few_kinds(), [("a", "a"), ("b", "c")], [("a", "a"), ("c", "b")])):
            self.assertEqual(settled_within(rule=rule), self.largest(rule))
        self.assertEqual(settled_within(short_rule()), [(short_rule().covers(), [])])

    def test_wrong_arguments(self):
        check_wrong(self, settled_within, {"rule": wild_rule()}, wrong_of_rule())


class TheExamples(unittest.TestCase):
    def test_those_of_the_document(self):
        few = Kinds(dict([((x, y), x if x == y else "c") for x in "abc" for y in "abc"]))
        wild = Rule(few, [("a", "a"), ("b", "b"), ("c", "c")], [])
        rule = rule_with(wild, [("a", "c"), ("b", "c")], [])
        self.assertEqual(
            [rule.covers(), is_within(wild, rule), meet_rule(rule, wild) == wild, union_rule(wild, rule) == rule, rule_without(rule, rule.covers(), []).covers()],
            [[('a', 'a'), ('a', 'c'), ('b', 'b'), ('b', 'c'), ('c', 'c')], True, True, True, []])
        self.assertEqual(
            [mirrored_rule(rule).stops(), mirrored_rule(mirrored_rule(rule)) == rule],
            [[('a', 'a'), ('b', 'b'), ('c', 'a'), ('c', 'b'), ('c', 'c')], True])
        found = force_of(wild, "cover", ("a", "c"))
        self.assertEqual(
            [forced_pairs(wild), is_force(wild, found), len(found[1]), is_force(wild, ("cover", ["b", "c", "c"], 0, 2)), forced_rule(wild) == rule, forced_pairs(rule)],
            [([('a', 'c'), ('b', 'c')], []), True, 3, True, True, ([], [])])
        shift = Kinds({("a", "a"): "a", ("a", "b"): "b", ("b", "a"): "a", ("b", "b"): "b"})
        self.assertEqual(settled_within(Rule(shift, [("a", "a")], [("a", "a")])), [([], [('a', 'a')])])


if __name__ == "__main__":
    unittest.main()
