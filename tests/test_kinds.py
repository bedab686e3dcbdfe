import itertools
import unittest

from logcores.errors import InvalidKind, InvalidKinds, InvalidLog, InvalidMap, InvalidTable
from logcores.kinds import Kinds, can_cover, can_stop, is_table, opposite, put_all, renamed
from logcores.rules import Rule
from tests.helper import any_objects, check_told, check_wrong, few_kinds, last_kinds, raised, state_kinds, state_table

ONE = {("k", "k"): "k"}


def tables_over(letters):
    """All dictionaries from the pairs of some letters to these letters."""
    pairs = [(x, y) for x in letters for y in letters]
    return [dict(zip(pairs, made)) for made in itertools.product(letters, repeat=len(pairs))]


def wrong_tables():
    """Dictionaries that miss being a table by little, beside objects of every kind."""
    full = {(x, y): "a" for x in "ab" for y in "ab"}
    assert is_table(full)
    wrong = any_objects()
    for pair in full:
        wrong.append({other: full[other] for other in full if other != pair})
        for made in ("c", "", "A", None, True, 0, ["a"], ("a",), {"a": "a"}, Kinds(ONE)):
            wrong.append({**full, pair: made})
    for key in ("ab", "a", ("a",), ("a", "a", "a"), ("a", "c"), ("c", "a"), ("c", "c"), ("a", 1), (True, "a"), (), 0,
                True, None, (("a",), "b"), ("a", ("b",)), ("a", "A"), ("", "a")):
        wrong.append({**full, key: "a"})
        wrong.append({**{pair: full[pair] for pair in list(full)[1:]}, key: "a"})
    wrong.append({("a", "a"): "b", ("a", "b"): "a", ("b", "a"): "a", ("b", "b"): "a"})
    wrong.extend([[(("a", "a"), "a")], [["a", "a"], "a"], (("a", "a"), "a"), list(full), [full], (full,)])
    return wrong


class Words(unittest.TestCase):
    def test_words_have_one_to_eight_letters_from_a_to_z(self):
        for word in ("a", "z", "k", "ab", "zz", "abcdefgh", "zzzzzzzz"):
            self.assertTrue(is_table({(word, word): word}), word)
            self.assertEqual(Kinds({(word, word): word}).words(), [word])

    def test_other_strings_are_none(self):
        for word in ("", "abcdefghi", "A", "aB", "a1", "1", "a b", " a", "a ", "a\n", "\t", "_", "`", "{", "a-b", "~"):
            self.assertFalse(is_table({(word, word): word}), repr(word))
            table = {(word, word): word}
            check_told(self, raised(Kinds, table), InvalidTable, table)

    def test_nothing_but_strings_are_words(self):
        for word in (None, True, False, 0, 1, ("a",), ()):
            self.assertFalse(is_table({(word, word): word}), repr(word))


class Tables(unittest.TestCase):
    def test_ordinary_tables(self):
        for table in (ONE, state_table(), few_kinds().table(), last_kinds("abc").table()):
            self.assertIs(is_table(table), True)
            self.assertIs(is_table(value=table), True)

    def test_what_is_no_table(self):
        for value in wrong_tables():
            self.assertIs(is_table(value), False, repr(value))
            check_told(self, raised(Kinds, value), InvalidTable, value)
            check_told(self, raised(Kinds, table=value), InvalidTable, value)

    def test_there_are_8_of_two_kinds_and_113_of_three(self):
        # The numbers of associative tables on two and three labelled elements.
        self.assertEqual(len([table for table in tables_over("ab") if is_table(table)]), 8)
        self.assertEqual(len([table for table in tables_over("abc") if is_table(table)]), 113)

    def test_each_bracketing_of_two_kinds_is_looked_at(self):
        for table in tables_over("xy"):
            same = all(table[(table[(a, b)], c)] == table[(a, table[(b, c)])] for a in "xy" for b in "xy" for c in "xy")
            self.assertIs(is_table(table), same)

    def test_one_wrong_bracketing_among_many_is_found(self):
        # In a chain of four kinds the least one wins; then two of them make what breaks one bracketing.
        chain = {(x, y): min(x, y) for x in "abcd" for y in "abcd"}
        self.assertTrue(is_table(chain))
        self.assertFalse(is_table({**chain, ("c", "d"): "b"}))
        self.assertFalse(is_table({**chain, ("d", "d"): "a"}))

    def test_more_than_four_kinds_are_no_error(self):
        letters = "abcdefghijkl"
        self.assertEqual(Kinds({(x, y): max(x, y) for x in letters for y in letters}).words(), list(letters))


class TheClass(unittest.TestCase):
    def test_the_examples_of_the_document(self):
        state = Kinds({("a", "a"): "a", ("a", "s"): "s", ("a", "z"): "z", ("s", "a"): "s", ("s", "s"): "s", ("s", "z"): "z", ("z", "a"): "z", ("z", "s"): "s", ("z", "z"): "z"})
        self.assertEqual([state.words(), state.put("s", "a"), put_all(state, ["a", "s", "a"]), put_all(state, ["z", "a"])],
                         [['a', 's', 'z'], 's', 's', 'z'])
        self.assertEqual([can_cover(state), can_stop(state)],
                         [[('a', 'a'), ('a', 's'), ('a', 'z'), ('s', 's'), ('s', 'z'), ('z', 's'), ('z', 'z')], [('a', 'a'), ('s', 'a'), ('s', 's'), ('z', 'a'), ('z', 'z')]])
        self.assertEqual([opposite(state).put("a", "s"), renamed(state, {"a": "z", "s": "s", "z": "a"}).put("z", "a")],
                         ['s', 'a'])
        self.assertEqual([is_table(state.table()), is_table({("a", "a"): "b", ("a", "b"): "a", ("b", "a"): "a", ("b", "b"): "a"}), is_table({})],
                         [True, False, False])

    def test_table_has_its_keys_ascending_whatever_the_order_was(self):
        table = state_table()
        backward = {pair: table[pair] for pair in sorted(table, reverse=True)}
        self.assertEqual(list(Kinds(backward).table().items()), sorted(table.items()))
        self.assertEqual(list(Kinds(table=backward).words()), ["a", "s", "z"])

    def test_put_tells_each_entry_of_the_table(self):
        for table in (state_table(), few_kinds().table(), last_kinds("pqr").table()):
            for first, second in table:
                self.assertEqual(Kinds(table).put(first, second), table[(first, second)])
                self.assertEqual(Kinds(table).put(second=second, first=first), table[(first, second)])

    def test_put_of_what_is_no_kind(self):
        wrong = [InvalidKind, ["b", "A", "", "aa", None, True, 0, ["a"], ("a",), {"a": "a"}, {}, [], state_kinds()]]
        check_wrong(self, state_kinds().put, {"first": "a", "second": "s"}, {"first": wrong, "second": wrong})

    def test_equal_exactly_if_the_tables_are(self):
        tables = [table for table in tables_over("ab") if is_table(table)] + [ONE, state_table()]
        for one in tables:
            for other in tables:
                self.assertIs(Kinds(one) == Kinds(other), one == other)
                self.assertIs(Kinds(one) != Kinds(other), one != other)

    def test_equal_whatever_the_order_of_the_keys(self):
        table = state_table()
        self.assertEqual(Kinds({pair: table[pair] for pair in sorted(table, reverse=True)}), Kinds(table))

    def test_never_equal_to_an_object_of_another_class(self):
        kinds = state_kinds()
        for value in [state_table(), ["a", "s", "z"], "asz", Rule(kinds, [], []), None, True, False, 0, (), [kinds]]:
            self.assertIs(kinds == value, False)
            self.assertIs(value == kinds, False)
            self.assertIs(kinds != value, True)

    def test_what_was_passed_or_returned_may_be_changed(self):
        table = state_table()
        kinds = Kinds(table)
        table[("a", "a")] = "z"
        del table[("s", "s")]
        kinds.table().clear()
        kinds.table()[("a", "a")] = "s"
        kinds.words().append("q")
        self.assertEqual(kinds.table(), state_table())
        self.assertEqual(kinds.words(), ["a", "s", "z"])
        self.assertEqual(kinds.put("a", "a"), "a")
        self.assertEqual(kinds, state_kinds())

    def test_the_table_that_is_passed_is_not_changed(self):
        table = {pair: made for pair, made in reversed(list(state_table().items()))}
        before = list(table.items())
        Kinds(table)
        is_table(table)
        self.assertEqual(list(table.items()), before)

    def test_each_call_returns_new_ones(self):
        kinds = state_kinds()
        self.assertIsNot(kinds.table(), kinds.table())
        self.assertIsNot(kinds.words(), kinds.words())


class PutAll(unittest.TestCase):
    def test_rows_make_the_same_however_they_are_bracketed(self):
        for kinds in (state_kinds(), few_kinds(), last_kinds("ab")):
            for size in range(1, 5):
                for row in itertools.product(kinds.words(), repeat=size):
                    made = put_all(kinds, list(row))
                    for cut in range(1, size):
                        self.assertEqual(kinds.put(put_all(kinds, list(row[:cut])), put_all(kinds, list(row[cut:]))), made)

    def test_a_row_of_one_makes_its_kind(self):
        self.assertEqual([put_all(state_kinds(), [kind]) for kind in "asz"], ["a", "s", "z"])

    def test_the_order_counts(self):
        self.assertEqual([put_all(few_kinds(), list(row)) for row in ("aa", "ab", "aab", "bbb")], ["a", "c", "c", "b"])
        self.assertEqual(put_all(last_kinds("ab"), ["b", "a", "b", "a"]), "a")
        self.assertEqual(put_all(kinds=opposite(last_kinds("ab")), row=["b", "a", "b", "a"]), "b")

    def test_each_entry_of_a_row_counts_once(self):
        even = Kinds({("e", "e"): "e", ("e", "o"): "o", ("o", "e"): "o", ("o", "o"): "e"})
        self.assertEqual([put_all(even, ["o"] * size) for size in range(1, 7)], ["o", "e", "o", "e", "o", "e"])
        self.assertEqual([put_all(even, list(row)) for row in ("eo", "oe", "oeo", "ooe", "eooo")], ["o", "o", "e", "e", "o"])

    def test_a_long_row(self):
        self.assertEqual(put_all(state_kinds(), ["z"] * 60 + ["s"] + ["a"] * 60), "s")

    def test_wrong_arguments_and_an_unchanged_row(self):
        rows = any_objects() + ["a", ("a",), ["b"], ["a", "b"], [["a"]], ["a", "s", ""], {"a": "a"}, {("a", "a"): "a"}]
        row = ["a", "s"]
        check_wrong(self, put_all, {"kinds": state_kinds(), "row": row},
                    {"kinds": (InvalidKinds, no_kinds()), "row": (InvalidLog, rows)})
        self.assertEqual(row, ["a", "s"])


def no_kinds():
    return [value for value in any_objects() if not isinstance(value, Kinds)] + [state_table(), ["a", "s", "z"]]


class OppositeAndRenamed(unittest.TestCase):
    def test_opposite_puts_the_other_way_round(self):
        for kinds in (state_kinds(), few_kinds(), last_kinds("abc")):
            for first in kinds.words():
                for second in kinds.words():
                    self.assertEqual(opposite(kinds).put(first, second), kinds.put(second, first))
            self.assertEqual(opposite(opposite(kinds=kinds)), kinds)
        self.assertNotEqual(opposite(state_kinds()), state_kinds())
        self.assertEqual(opposite(few_kinds()), few_kinds())

    def test_renamed_sends_each_entry(self):
        for sent in ({"a": "z", "s": "s", "z": "a"}, {"a": "s", "s": "z", "z": "a"}, {"a": "new", "s": "abcdefgh", "z": "b"}):
            kinds = renamed(state_kinds(), sent)
            self.assertEqual(kinds.words(), sorted(sent.values()))
            for first, second in state_table():
                self.assertEqual(kinds.put(sent[first], sent[second]), sent[state_kinds().put(first, second)])
            self.assertEqual(renamed(kinds=kinds, sent={sent[kind]: kind for kind in sent}), state_kinds())

    def test_renamed_to_the_same(self):
        self.assertEqual(renamed(state_kinds(), {"z": "z", "a": "a", "s": "s"}), state_kinds())

    def test_their_wrong_arguments(self):
        check_wrong(self, opposite, {"kinds": state_kinds()}, {"kinds": (InvalidKinds, no_kinds())})
        check_wrong(self, renamed, {"kinds": state_kinds(), "sent": {"a": "a", "s": "t", "z": "z"}},
                    {"kinds": (InvalidKinds, no_kinds()), "sent": (InvalidMap, wrong_maps())})

    def test_they_change_nothing(self):
        kinds, sent = state_kinds(), {"z": "q", "s": "z", "a": "s"}
        opposite(kinds)
        one = renamed(kinds, sent)
        self.assertEqual(list(sent.items()), [("z", "q"), ("s", "z"), ("a", "s")])
        sent["z"] = "r"
        self.assertEqual(one.words(), ["q", "s", "z"])
        self.assertEqual(kinds, state_kinds())


def wrong_maps():
    """What is no map of the kinds a, s, z."""
    wrong = any_objects() + [{"a": "a", "s": "t"}, {"a": "a", "s": "t", "z": "z", "t": "s"}, {"a": "a", "s": "t", "t": "z"},
                             {"a": "t", "s": "t", "z": "z"}, {"a": "a", "s": "a", "z": "a"}, ["a", "s", "z"], "asz",
                             [("a", "a"), ("s", "s"), ("z", "z")], {"a": "a", "s": "s", True: "z"}, {"a": "a", "s": "s", None: "z"}]
    for made in ("", "A", "abcdefghi", "a\n", None, True, 1, [], ["t"], ("t",), {"t": "t"}, Kinds(ONE)):
        wrong.append({"a": "a", "s": made, "z": "z"})
    return wrong


class CanCoverAndCanStop(unittest.TestCase):
    def test_just_the_pairs_that_make_one_of_theirs(self):
        for table in [table for table in tables_over("abc") if is_table(table)]:
            self.assertEqual(can_cover(Kinds(table)), [pair for pair in sorted(table) if table[pair] == pair[1]])
            self.assertEqual(can_stop(Kinds(table)), [pair for pair in sorted(table) if table[pair] == pair[0]])

    def test_none_and_all(self):
        nought = Kinds({(x, y): "o" for x in "ox" for y in "ox"})
        self.assertEqual([can_cover(nought), can_stop(nought)], [[("o", "o"), ("x", "o")], [("o", "o"), ("o", "x")]])
        self.assertEqual(len(can_cover(kinds=last_kinds("abcd"))), 16)
        self.assertEqual(can_stop(kinds=last_kinds("ab")), [("a", "a"), ("b", "b")])

    def test_new_lists_each_time(self):
        kinds = state_kinds()
        told = can_cover(kinds), can_stop(kinds)
        can_cover(kinds).clear()
        can_stop(kinds).append(("q", "q"))
        self.assertEqual((can_cover(kinds), can_stop(kinds)), told)

    def test_wrong_arguments(self):
        for call in (can_cover, can_stop):
            check_wrong(self, call, {"kinds": state_kinds()}, {"kinds": (InvalidKinds, no_kinds())})


if __name__ == "__main__":
    unittest.main()
