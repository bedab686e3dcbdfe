"""Rules that are asked often: all of two kinds, and drawn ones of three and four, against a slow reading."""

import random
import time
import unittest

from logcores.cores import kept
from logcores.forced import force_of, forced_pairs, forced_rule, is_force, settled_within
from logcores.kinds import Kinds, can_cover, can_stop
from logcores.logs import Book
from logcores.rules import Rule, rule_with
from logcores.settled import fork, is_fork, is_settled, is_unsettled, last_ones, unsettled, unsettled_rows
from tests.oracle import Reading, all_rules, drawn_rule, left_behind


def made_rule(words, made, covers, stops):
    """A rule by its table row by row, and its pairs as two letters."""
    pairs = [(x, y) for x in words for y in words]
    return Rule(Kinds(dict(zip(pairs, made))), [tuple(pair) for pair in covers.split()], [tuple(pair) for pair in stops.split()])


def told_rules():
    """The rules of which answers came too slowly."""
    return [made_rule("abc", "abcbbccbc", "ab ac bb bc cb cc", "ca"), made_rule("abcd", "cccacacbccccabcd", "ac bc cc dc dd", ""),
            made_rule("abc", "acccbcccc", "aa bb cc", "")]


def drawn_rules(words, many):
    draw = random.Random(len(words))
    return [drawn_rule(draw, words) for _ in range(many)]


class AgainstASlowReading(unittest.TestCase):
    def check_settled(self, rule, reading):
        """Check what is told of the rows of a rule, and return the size of the first one with several last ones."""
        split = {size: reading.split_rows(size) for size in range(1, 6)}
        sizes = [size for size in split if split[size]]
        self.assertIs(is_settled(rule), sizes == [])
        for size in split:
            self.assertEqual(unsettled_rows(rule, size), split[size])
        told, two = unsettled(rule), fork(rule)
        if not sizes:
            self.assertEqual((told, two), (None, None))
            return 0
        row, one, other = told
        self.assertIn(row, split[sizes[0]])
        self.assertTrue(one != other and one in reading.ends_of(row) and other in reading.ends_of(row))
        self.assertIs(is_unsettled(rule, told), True)
        self.assertEqual(last_ones(rule, row), reading.ends_of(row))
        self.check_fork(rule, reading, two)
        return sizes[0]

    def check_fork(self, rule, reading, two):
        row, one, other = two
        self.assertTrue(len(row) <= 5 and one in reading.strikes_on(row) and other in reading.strikes_on(row))
        behind = []
        for strike in (one, other):
            places = left_behind(list(range(len(row))), strike)
            behind.append({tuple(places[at] for at in led) for led in reading.led_to([row[place] for place in places])})
        self.assertEqual(behind[0] & behind[1], set())
        self.assertIs(is_fork(rule, two), True)

    def check_forced(self, rule, reading):
        pairs = reading.forced()
        self.assertEqual(forced_pairs(rule), pairs)
        for word, found, allowed in (("cover", pairs[0] + rule.covers(), can_cover(rule.kinds())),
                                     ("stop", pairs[1] + rule.stops(), can_stop(rule.kinds()))):
            for pair in allowed:
                told = force_of(rule, word, pair)
                self.assertIs(told is not None, pair in found)
                self.assertTrue(told is None or is_force(rule, told))
        end = rule
        while pairs != ([], []):
            end = rule_with(end, *pairs)
            pairs = Reading(end).forced()
        self.assertEqual(forced_rule(rule), end)
        return end != rule

    def check_all(self, rules):
        found = set()
        for rule in rules:
            reading = Reading(rule)
            size = self.check_settled(rule, reading)
            forced = self.check_forced(rule, reading)
            found.add((size, forced))
        return found

    def test_all_rules_of_two_kinds(self):
        found = self.check_all(all_rules("ab"))
        self.assertEqual({size for size, _ in found}, {0, 2, 3, 4, 5})
        self.assertEqual({forced for size, forced in found if size == 0}, {False})

    def test_drawn_rules_of_three_kinds(self):
        found = self.check_all(told_rules()[::2] + drawn_rules("abc", 60))
        self.assertEqual({size for size, _ in found}, {0, 2, 3, 4, 5})
        self.assertEqual({forced for _, forced in found}, {True, False})

    def test_drawn_rules_of_four_kinds(self):
        found = self.check_all(told_rules()[1:2] + drawn_rules("abcd", 16))
        self.assertTrue({0, 2, 3, 4} <= {size for size, _ in found})

    def test_one_kind(self):
        self.check_all(all_rules("a"))


class RulesMadeAnew(unittest.TestCase):
    def seconds(self, call):
        """How long a call takes, by the time of this process alone, on rules that were made just ahead."""
        rules = [(rule.kinds(), rule.covers(), rule.stops()) for rule in told_rules()] * 20
        start = time.process_time()
        for kinds, covers, stops in rules:
            call(Rule(kinds, covers, stops))
        return (time.process_time() - start) / len(rules)

    def test_answers_come_soon(self):
        for call in (is_settled, unsettled, lambda rule: unsettled_rows(rule, 5), fork, forced_pairs, forced_rule, settled_within):
            # Measured: less than a thousandth of a second; as it stood, ten and more.
            self.assertLess(self.seconds(call), 0.006)

    def test_what_rests_on_it_comes_soon_too(self):
        def kept_of_nothing(rule):
            return kept(Book(rule, {kind: kind for kind in rule.kinds().words()}), []) if is_settled(rule) else None

        self.assertLess(self.seconds(kept_of_nothing), 0.006)

    def test_equal_rules_tell_the_same_whatever_was_asked_before(self):
        calls = [is_settled, unsettled, lambda rule: unsettled_rows(rule, 4), fork, forced_pairs, lambda rule: forced_rule(rule).covers(),
                 lambda rule: force_of(rule, "cover", rule.covers()[0]), lambda rule: settled_within(rule) if len(rule.covers()) < 5 else None]
        for at in range(3):
            first = [call(told_rules()[at]) for call in calls]
            asked = told_rules()[at]
            self.assertEqual([call(asked) for call in calls[::-1]], first[::-1])
            self.assertEqual([call(asked) for call in calls], first)


if __name__ == "__main__":
    unittest.main()
