import unittest

from logcores.errors import InvalidKinds, InvalidMap, InvalidPairs, InvalidRule, Unlike
from logcores.kinds import Kinds, can_cover, can_stop, opposite, renamed
from logcores.rules import (Rule, is_within, meet_rule, mirrored_rule, renamed_rule, rule_with, rule_without,
                            union_rule)
from tests.helper import (COVERS, STOPS, any_objects, check_told, check_wrong, few_kinds, last_kinds, no_rules, raised,
                          state_kinds, state_table, store_rule)
from tests.oracle import parts_of


def rules_of(kinds):
    return [Rule(kinds, covers, stops) for covers in parts_of(can_cover(kinds)) for stops in parts_of(can_stop(kinds))]


def two_kinds():
    """Kinds of which each pair of two unlike ones makes z: three pairs can cover, three can stop."""
    return Kinds({(x, y): x if x == y else "z" for x in "az" for y in "az"})


def no_kinds():
    return [value for value in any_objects() if not isinstance(value, Kinds)] + [store_rule(), state_table()]


def wrong_pairs():
    """What is no ascending list of pairs that can cover, nor of pairs that can stop, in the state kinds."""
    wrong = [value for value in any_objects() if value != []]
    wrong.extend([
        [("a", "a"), ("a", "a")], [("z", "a"), ("z", "a")], [("s", "s"), ("a", "a")], [("z", "z"), ("s", "s"), ("a", "a")],
        (("a", "a"),), {("a", "a"): True}, [["a", "a"]], [("a", "a"), ["s", "s"]], ("a", "a"), "aa", ["aa"],
        [("a",)], [("a", "a", "a")], [()], [("q", "q")], [("a", "q")], [("a", "a"), None], [("a", True)], [("a", 1)],
        [(("a", "a"),)], [[("a", "a")]], [("a", ["a"])], [("a", "a"), ("s", "s"), ("s", "s")], [("A", "A")], [("a", "")],
    ])
    return wrong


def wrong_covers():
    return wrong_pairs() + [[("z", "a")], [("s", "a")], [("a", "a"), ("s", "a")]]


def wrong_stops():
    return wrong_pairs() + [[("a", "z")], [("a", "s")], [("z", "s")], [("z", "a"), ("z", "s")]]


class TheClass(unittest.TestCase):
    def test_it_tells_what_it_is_made_of(self):
        rule = store_rule()
        self.assertEqual((rule.kinds(), rule.covers(), rule.stops()), (state_kinds(), COVERS, STOPS))
        rule = Rule(kinds=state_kinds(), covers=[], stops=[("a", "a"), ("z", "a")])
        self.assertEqual((rule.kinds(), rule.covers(), rule.stops()), (state_kinds(), [], [("a", "a"), ("z", "a")]))

    def test_all_pairs_that_can_and_none(self):
        for kinds in (state_kinds(), few_kinds(), last_kinds("abcd")):
            rule = Rule(kinds, can_cover(kinds), can_stop(kinds))
            self.assertEqual((rule.covers(), rule.stops()), (can_cover(kinds), can_stop(kinds)))
            self.assertEqual((Rule(kinds, [], []).covers(), Rule(kinds, [], []).stops()), ([], []))

    def test_each_pair_alone_is_taken_exactly_if_it_can(self):
        kinds = state_kinds()
        for pair in kinds.table():
            pairs = [pair]
            if pair in can_cover(kinds):
                self.assertEqual(Rule(kinds, pairs, []).covers(), pairs)
            else:
                check_told(self, raised(Rule, kinds, pairs, []), InvalidPairs, pairs)
            if pair in can_stop(kinds):
                self.assertEqual(Rule(kinds, [], pairs).stops(), pairs)
            else:
                check_told(self, raised(Rule, kinds, [], pairs), InvalidPairs, pairs)

    def test_wrong_arguments(self):
        check_wrong(self, Rule, {"kinds": state_kinds(), "covers": COVERS, "stops": STOPS},
                    {"kinds": (InvalidKinds, no_kinds()), "covers": (InvalidPairs, wrong_covers()),
                     "stops": (InvalidPairs, wrong_stops())})

    def test_more_than_four_kinds_are_no_error(self):
        kinds = last_kinds("abcdefg")
        self.assertEqual(len(Rule(kinds, can_cover(kinds), []).covers()), 49)

    def test_equal_exactly_if_all_three_are(self):
        rules = rules_of(two_kinds()) + rules_of(last_kinds("az"))
        told = [(rule.kinds().table(), rule.covers(), rule.stops()) for rule in rules]
        for at, one in enumerate(rules):
            for place, other in enumerate(rules):
                self.assertIs(one == other, told[at] == told[place])
                self.assertIs(one != other, told[at] != told[place])

    def test_the_same_pairs_of_other_kinds_are_not_equal(self):
        self.assertNotEqual(Rule(state_kinds(), [], []), Rule(few_kinds(), [], []))
        self.assertEqual(store_rule(), store_rule())

    def test_never_equal_to_an_object_of_another_class(self):
        rule = store_rule()
        for value in [state_kinds(), (state_kinds(), COVERS, STOPS), [rule], None, True, 0, "rule", {}]:
            self.assertIs(rule == value, False)
            self.assertIs(value == rule, False)
            self.assertIs(rule != value, True)

    def test_what_was_passed_or_returned_may_be_changed(self):
        table, covers, stops = state_table(), list(COVERS), list(STOPS)
        rule = Rule(Kinds(table), covers, stops)
        table.clear()
        covers.pop()
        stops.append(("a", "a"))
        rule.covers().clear()
        rule.stops().append(("q", "q"))
        rule.kinds().table().clear()
        rule.kinds().words().clear()
        self.assertEqual((rule.kinds().table(), rule.covers(), rule.stops()), (state_table(), COVERS, STOPS))
        self.assertEqual(rule, store_rule())

    def test_each_call_returns_new_lists(self):
        rule = store_rule()
        self.assertIsNot(rule.covers(), rule.covers())
        self.assertIsNot(rule.stops(), rule.stops())


class TheExamples(unittest.TestCase):
    def test_those_of_the_document_that_need_no_forces(self):
        few = Kinds(dict([((x, y), x if x == y else "c") for x in "abc" for y in "abc"]))
        wild = Rule(few, [("a", "a"), ("b", "b"), ("c", "c")], [])
        rule = rule_with(wild, [("a", "c"), ("b", "c")], [])
        self.assertEqual(
            [rule.covers(), is_within(wild, rule), meet_rule(rule, wild) == wild, union_rule(wild, rule) == rule, rule_without(rule, rule.covers(), []).covers()],
            [[('a', 'a'), ('a', 'c'), ('b', 'b'), ('b', 'c'), ('c', 'c')], True, True, True, []])
        self.assertEqual(
            [mirrored_rule(rule).stops(), mirrored_rule(mirrored_rule(rule)) == rule],
            [[('a', 'a'), ('b', 'b'), ('c', 'a'), ('c', 'b'), ('c', 'c')], True])


class WithAndWithout(unittest.TestCase):
    def test_pairs_put_in_and_left_out(self):
        kinds = two_kinds()
        for rule in rules_of(kinds):
            for covers in parts_of(can_cover(kinds)):
                for stops in parts_of(can_stop(kinds)):
                    more, less = rule_with(rule, covers, stops), rule_without(rule, covers, stops)
                    self.assertEqual(more.covers(), sorted({*rule.covers(), *covers}))
                    self.assertEqual(more.stops(), sorted({*rule.stops(), *stops}))
                    self.assertEqual(less.covers(), [pair for pair in rule.covers() if pair not in covers])
                    self.assertEqual(less.stops(), [pair for pair in rule.stops() if pair not in stops])
                    self.assertEqual((more.kinds(), less.kinds()), (kinds, kinds))

    def test_pairs_that_it_has_or_lacks_already_change_nothing(self):
        rule = store_rule()
        self.assertEqual(rule_with(rule, COVERS[1:3], STOPS), rule)
        self.assertEqual(rule_with(rule, [], []), rule)
        self.assertEqual(rule_without(rule, [("a", "a")], [("a", "a"), ("s", "s")]), rule)
        self.assertEqual(rule_without(rule, [], []), rule)

    def test_by_the_names_of_the_interface(self):
        self.assertEqual(rule_with(rule=store_rule(), covers=[("a", "a")], stops=[]).covers(), [("a", "a")] + COVERS)
        self.assertEqual(rule_without(rule=store_rule(), covers=COVERS[1:], stops=STOPS), Rule(state_kinds(), COVERS[:1], []))

    def test_covers_and_stops_are_not_taken_for_each_other(self):
        rule = Rule(state_kinds(), [], [])
        more = rule_with(rule, [("a", "z")], [("z", "a")])
        self.assertEqual((more.covers(), more.stops()), ([("a", "z")], [("z", "a")]))
        less = rule_without(Rule(state_kinds(), [("a", "a")], [("a", "a")]), [("a", "a")], [])
        self.assertEqual((less.covers(), less.stops()), ([], [("a", "a")]))

    def test_wrong_arguments(self):
        for call in (rule_with, rule_without):
            check_wrong(self, call, {"rule": store_rule(), "covers": COVERS, "stops": STOPS},
                        {"rule": (InvalidRule, no_rules()), "covers": (InvalidPairs, wrong_covers()),
                         "stops": (InvalidPairs, wrong_stops())})

    def test_the_arguments_stay_as_they_are(self):
        for call in (rule_with, rule_without):
            rule, covers, stops = store_rule(), [("a", "a"), ("a", "s")], [("s", "s"), ("z", "a")]
            made = call(rule, covers, stops)
            told = made.covers(), made.stops()
            self.assertEqual((rule, covers, stops), (store_rule(), [("a", "a"), ("a", "s")], [("s", "s"), ("z", "a")]))
            covers.clear()
            stops.clear()
            self.assertEqual((made.covers(), made.stops()), told)


class Together(unittest.TestCase):
    def test_meet_union_and_within(self):
        for one in rules_of(two_kinds()):
            for other in rules_of(two_kinds()):
                both, either = meet_rule(one, other), union_rule(one, other)
                self.assertEqual(both.covers(), sorted({*one.covers()} & {*other.covers()}))
                self.assertEqual(both.stops(), sorted({*one.stops()} & {*other.stops()}))
                self.assertEqual(either.covers(), sorted({*one.covers()} | {*other.covers()}))
                self.assertEqual(either.stops(), sorted({*one.stops()} | {*other.stops()}))
                self.assertEqual((both.kinds(), either.kinds()), (two_kinds(), two_kinds()))
                within = {*one.covers()} <= {*other.covers()} and {*one.stops()} <= {*other.stops()}
                self.assertIs(is_within(one, other), within)

    def test_within_looks_at_both_lists(self):
        none, more = Rule(state_kinds(), [], []), store_rule()
        self.assertEqual([is_within(none, more), is_within(more, none), is_within(more, more)], [True, False, True])
        self.assertFalse(is_within(Rule(state_kinds(), [("a", "a")], []), Rule(state_kinds(), [], [("a", "a")])))
        self.assertFalse(is_within(Rule(state_kinds(), [], [("a", "a")]), Rule(state_kinds(), [("a", "a")], [])))

    def test_by_the_names_of_the_interface(self):
        one, other = store_rule(), Rule(state_kinds(), [("a", "a"), ("a", "s")], [])
        self.assertEqual(meet_rule(other=other, one=one), Rule(state_kinds(), [("a", "s")], []))
        self.assertEqual(union_rule(other=other, one=one), Rule(state_kinds(), [("a", "a")] + COVERS, STOPS))
        self.assertIs(is_within(other=one, one=meet_rule(one, other)), True)
        self.assertIs(is_within(one=one, other=meet_rule(one, other)), False)

    def test_rules_of_other_kinds_are_unlike(self):
        others = [Rule(few_kinds(), [], []), Rule(opposite(state_kinds()), [], []), Rule(last_kinds("asz"), [], []),
                  Rule(renamed(state_kinds(), {"a": "b", "s": "s", "z": "z"}), [], [])]
        for call in (meet_rule, union_rule, is_within):
            for other in others:
                for one in (store_rule(), Rule(state_kinds(), [], [])):
                    check_told(self, raised(call, one, other), Unlike, other)
                    check_told(self, raised(call, other=other, one=one), Unlike, other)
                    check_told(self, raised(call, other, one), Unlike, one)

    def test_kinds_need_only_be_equal(self):
        for call in (meet_rule, union_rule):
            self.assertEqual(call(store_rule(), store_rule()), store_rule())
        self.assertIs(is_within(store_rule(), store_rule()), True)

    def test_wrong_arguments(self):
        for call in (meet_rule, union_rule, is_within):
            check_wrong(self, call, {"one": store_rule(), "other": Rule(state_kinds(), [], [])},
                        {"one": (InvalidRule, no_rules()), "other": (InvalidRule, no_rules())})


class MirroredAndRenamed(unittest.TestCase):
    def test_mirrored_turns_each_pair_into_the_other_list(self):
        for rule in rules_of(two_kinds()) + rules_of(last_kinds("az")) + [store_rule()]:
            mirror = mirrored_rule(rule)
            self.assertEqual(mirror.kinds(), opposite(rule.kinds()))
            self.assertEqual(mirror.stops(), sorted((b, a) for a, b in rule.covers()))
            self.assertEqual(mirror.covers(), sorted((b, a) for a, b in rule.stops()))
            self.assertEqual(mirrored_rule(rule=mirror), rule)

    def test_mirrored_of_the_store(self):
        mirror = mirrored_rule(store_rule())
        self.assertEqual(mirror.covers(), [("a", "z")])
        self.assertEqual(mirror.stops(), [("s", "a"), ("s", "s"), ("s", "z"), ("z", "a"), ("z", "s"), ("z", "z")])
        self.assertNotEqual(mirror, store_rule())

    def test_renamed_and_back_again(self):
        for sent in ({"a": "z", "s": "s", "z": "a"}, {"a": "s", "s": "z", "z": "a"}, {"a": "n", "s": "mm", "z": "b"}):
            rule = renamed_rule(store_rule(), sent)
            self.assertEqual(rule.kinds(), renamed(state_kinds(), sent))
            self.assertEqual(rule.covers(), sorted((sent[a], sent[b]) for a, b in COVERS))
            self.assertEqual(rule.stops(), sorted((sent[a], sent[b]) for a, b in STOPS))
            self.assertEqual(renamed_rule(rule=rule, sent={sent[kind]: kind for kind in sent}), store_rule())

    def test_renamed_sorts_both_lists_anew(self):
        kinds = last_kinds("ab")
        rule = renamed_rule(Rule(kinds, can_cover(kinds), can_stop(kinds)), {"a": "y", "b": "x"})
        self.assertEqual(rule.covers(), [("x", "x"), ("x", "y"), ("y", "x"), ("y", "y")])
        self.assertEqual(rule.stops(), [("x", "x"), ("y", "y")])

    def test_wrong_arguments(self):
        check_wrong(self, mirrored_rule, {"rule": store_rule()}, {"rule": (InvalidRule, no_rules())})
        maps = any_objects() + [{"a": "a", "s": "s"}, {"a": "a", "s": "s", "z": "a"}, {"a": "a", "s": "s", "z": "Z"},
                                {"a": "a", "s": "s", "z": "z", "q": "q"}, {"a": "a", "s": "s", "q": "z"},
                                {"a": "a", "s": "s", "z": None}, {"a": "a", "s": "s", "z": ["z"]}, ["a", "s", "z"],
                                {"a": "a", "s": "s", "z": ""}, {"a": "a", "s": "s", True: "z"}]
        check_wrong(self, renamed_rule, {"rule": store_rule(), "sent": {"a": "a", "s": "s", "z": "z"}},
                    {"rule": (InvalidRule, no_rules()), "sent": (InvalidMap, maps)})

    def test_they_change_nothing(self):
        rule, sent = store_rule(), {"z": "q", "s": "z", "a": "s"}
        mirrored_rule(rule)
        renamed_rule(rule, sent)
        self.assertEqual(rule, store_rule())
        self.assertEqual(list(sent.items()), [("z", "q"), ("s", "z"), ("a", "s")])


if __name__ == "__main__":
    unittest.main()
