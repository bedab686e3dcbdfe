import unittest

from logcores.errors import InvalidCount, InvalidLog
from logcores.kinds import Kinds
from logcores.rules import Rule
from logcores.settled import fork, is_fork, is_settled, is_unsettled, last_ones, unsettled, unsettled_rows
from tests.helper import (bent, check_judge, check_wrong, few_kinds, last_kinds, no_counts, no_rows, pages_rule,
                          short_rule, store_rule, wild_rule, wrong_of_rule)
from tests.oracle import all_rules, ends_of, led_to, left_behind, rows, strikes_on


def rules():
    """All rules of two kinds, which first fail at rows of two to five entries, or never, and some of three."""
    return list(all_rules("ab")) + [store_rule(), pages_rule(), short_rule(), wild_rule()]


def first_unsettled(rule):
    """The rows of fewest entries that have several last ones."""
    found = [row for row in rows(rule.kinds(), 5) if row and len(ends_of(rule, row)) > 1]
    return [row for row in found if len(row) == len(found[0])]


def twice():
    return Rule(few_kinds(), [("a", "a")], [("a", "a")])


class Settled(unittest.TestCase):
    def test_by_all_rows_of_up_to_five(self):
        sizes = set()
        for rule in rules():
            found = first_unsettled(rule)
            self.assertIs(is_settled(rule), found == [])
            sizes.add(len(found[0]) if found else 0)
        self.assertEqual(sizes, {0, 2, 3, 4, 5})

    def test_asked_again_and_of_equal_rules(self):
        for make in (store_rule, wild_rule):
            rule = make()
            self.assertEqual([is_settled(rule), is_settled(rule), is_settled(make())], [make == store_rule] * 3)
        self.assertIs(is_settled(rule=store_rule()), True)

    def test_four_kinds(self):
        kinds = last_kinds("abcd")
        self.assertIs(is_settled(Rule(kinds, sorted(kinds.table()), [])), True)
        self.assertIs(is_settled(Rule(kinds, sorted(kinds.table()), [("d", "d")])), False)

    def test_wrong_arguments(self):
        for call in (is_settled, unsettled, fork):
            check_wrong(self, call, {"rule": store_rule()}, wrong_of_rule())


class LastOnes(unittest.TestCase):
    def test_by_all_orders_of_strikes(self):
        for rule in rules():
            for row in rows(rule.kinds(), 4):
                if row:
                    self.assertEqual(last_ones(rule, row), ends_of(rule, row))

    def test_rows_of_eight(self):
        self.assertEqual(last_ones(twice(), ["a"] * 8), [[place] for place in range(8)])
        self.assertEqual(last_ones(rule=store_rule(), row=list("asaazaas")), [[7]])
        self.assertEqual(last_ones(pages_rule(), list("mlmlmlml")), ends_of(pages_rule(), list("mlmlmlml")))

    def test_what_is_returned_may_be_changed(self):
        row = ["a", "b"]
        found = last_ones(wild_rule(), row)
        found[0].clear()
        found.clear()
        self.assertEqual((row, last_ones(wild_rule(), row)), (["a", "b"], [[0, 1]]))

    def test_wrong_arguments(self):
        check_wrong(self, last_ones, {"rule": wild_rule(), "row": ["a", "b", "c"]},
                    {**wrong_of_rule(), "row": (InvalidLog, [[]] + no_rows())})


class Unsettled(unittest.TestCase):
    def test_a_row_of_fewest_entries_with_two_last_ones(self):
        for rule in rules():
            found, told = first_unsettled(rule), unsettled(rule)
            if not found:
                self.assertIs(told, None)
                continue
            row, one, other = told
            self.assertIn(row, found)
            self.assertIn(one, ends_of(rule, row))
            self.assertIn(other, ends_of(rule, row))
            self.assertNotEqual(one, other)
            self.assertEqual([type(told), type(row), type(one), type(other)], [tuple, list, list, list])
            self.assertIs(is_unsettled(rule, told), True)
            self.assertIs(is_unsettled(rule=rule, value=(row, other, one)), True)
            self.assertIs(is_unsettled(rule, (row, one, one)), False)

    def test_it_judges_any_object(self):
        self.assertIs(is_unsettled(twice(), (["a", "b", "a", "a"], [0, 1, 2], [0, 1, 3])), True)
        right = [(["a", "a"], [0], [1]), (["a", "a"], [1], [0])]
        right.extend([(["a", "a", "a"], [one], [other]) for one in range(3) for other in range(3) if one != other])
        wrong = [value for good in right[:2] for value in bent(good)]
        wrong.extend([(["a", "a"], [0], [0]), (["a", "a"], [0, 1], [0]), (["a", "a"], [0], [0, 1]), (["a", "a"], [0], []), (["a", "a"], [0], [2]),
                      (["a", "b"], [0, 1], [0, 1]), ([], [], [0]), (["a", "a"], [False], [True]), (["a", "q"], [0], [1]),
                      (("a", "a"), [0], [1]), (["a", "a"], (0,), (1,)), [["a", "a"], [0], [1]], (["a", "a"], [0], [1], None)])
        check_judge(self, lambda value: is_unsettled(twice(), value), right, wrong)
        check_judge(self, lambda value: is_unsettled(store_rule(), value), [], right)

    def test_longer_rows_are_judged_too(self):
        self.assertIs(is_unsettled(twice(), (list("aabcaaba"), [0, 2, 3, 4, 6, 7], [1, 2, 3, 5, 6, 7])), True)

    def test_wrong_arguments(self):
        check_wrong(self, is_unsettled, {"rule": wild_rule(), "value": None}, wrong_of_rule())


class UnsettledRows(unittest.TestCase):
    def test_all_of_so_many_entries(self):
        for rule in rules():
            found = [row for row in rows(rule.kinds(), 5) if row and len(ends_of(rule, row)) > 1]
            for size in range(1, 6):
                self.assertEqual(unsettled_rows(rule, size), [row for row in found if len(row) == size])

    def test_what_is_returned_may_be_changed(self):
        unsettled_rows(twice(), 2)[0].clear()
        self.assertEqual(unsettled_rows(rule=twice(), size=2), [["a", "a"]])

    def test_wrong_arguments(self):
        check_wrong(self, unsettled_rows, {"rule": wild_rule(), "size": 5},
                    {**wrong_of_rule(), "size": (InvalidCount, [0, 6, 10 ** 29] + no_counts())})


class Forks(unittest.TestCase):
    def meets(self, rule, row, one, other):
        behind = [led_to(rule, row, left_behind(list(range(len(row))), strike)) for strike in (one, other)]
        return bool(behind[0] & behind[1])

    def test_a_fork_is_found_exactly_if_the_rule_is_not_settled(self):
        for rule in rules():
            told = fork(rule)
            self.assertIs(told is None, is_settled(rule))
            if told is not None:
                row, one, other = told
                self.assertEqual((type(told), type(row), type(one), type(other)), (tuple, list, tuple, tuple))
                self.assertLessEqual(len(row), 5)
                self.assertIn(one, strikes_on(rule, row))
                self.assertIn(other, strikes_on(rule, row))
                self.assertFalse(self.meets(rule, row, one, other))
                self.assertIs(is_fork(rule, told), True)

    def test_it_judges_all_two_strikes(self):
        for rule in list(all_rules("ab"))[::3] + [wild_rule(), store_rule()]:
            for row in rows(rule.kinds(), 3):
                found = strikes_on(rule, row)
                for one in found:
                    for other in found:
                        self.assertIs(is_fork(rule, (row, one, other)), not self.meets(rule, row, one, other))

    def test_it_judges_any_object(self):
        right = (["a", "a"], ("cover", 0, 1, 2), ("stop", 0, 1, 2))
        wrong = bent(right) + [(["a", "a"], right[1], right[1]), (["a", "b"], right[1], right[2]), list(right),
                               (["a", "a"], ("cover", 0, 1, 3), right[2]), ([], right[1], right[2]), right + (None,)]
        check_judge(self, lambda value: is_fork(twice(), value), [right, (right[0], right[2], right[1])], wrong)
        self.assertIs(is_fork(rule=twice(), value=right), True)

    def test_wrong_arguments(self):
        check_wrong(self, is_fork, {"rule": wild_rule(), "value": None}, wrong_of_rule())


class TheExamples(unittest.TestCase):
    def test_those_of_the_document(self):
        few = Kinds(dict([((x, y), x if x == y else "c") for x in "abc" for y in "abc"]))
        wild = Rule(few, [("a", "a"), ("b", "b"), ("c", "c")], [])
        self.assertEqual(
            [is_fork(wild, fork(wild)), is_unsettled(wild, unsettled(wild)), is_settled(wild), is_settled(Rule(few, [("a", "a"), ("a", "c"), ("b", "b"), ("b", "c"), ("c", "c")], [])), is_settled(Rule(few, [], []))],
            [True, True, False, True, True])
        twice = Rule(few, [("a", "a")], [("a", "a")])
        self.assertEqual(
            [last_ones(twice, ["a", "a"]), is_unsettled(twice, (["a", "a"], [0], [1])), is_fork(twice, (["a", "a"], ("cover", 0, 1, 2), ("stop", 0, 1, 2))), unsettled_rows(twice, 2)],
            [[[0], [1]], True, True, [['a', 'a']]])
        even = Rule(Kinds({("e", "e"): "e", ("e", "o"): "o", ("o", "e"): "o", ("o", "o"): "e"}), [("e", "e")], [])
        self.assertEqual(
            [unsettled_rows(even, 4), len(unsettled(even)[0]), ["".join(row) for row in unsettled_rows(even, 5)]],
            [[], 5, ['eoooe', 'ooeoe', 'oooeo', 'ooooo']])


if __name__ == "__main__":
    unittest.main()
