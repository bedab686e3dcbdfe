import itertools
import random
import unittest

from logcores.cores import kept
from logcores.errors import InvalidBook, InvalidFolding, InvalidKind, InvalidRule
from logcores.folding import all_foldings, coarsest, folded_book, folded_rule, is_folding, is_telling, telling
from logcores.kinds import Kinds, can_cover, can_stop
from logcores.logs import Book, strikes
from logcores.nets import longest
from logcores.rules import Rule
from logcores.settled import is_settled
from tests.helper import (any_objects, bent, check_judge, check_told, check_wrong, last_kinds, no_books, no_rules, pages_rule, raised,
                          short_rule, state_kinds, store_book, store_rule, tall_rule, wild_book, wild_rule, wrong_of_rule, COVERS)
from tests.oracle import all_rules, made_by, rows


def plain_rule():
    """The document's rule by which s and z are alike."""
    return Rule(state_kinds(), list(COVERS), [])


def doubled(rule, kind, name):
    """A rule with one of its kinds twice, the second time under another name that nothing makes."""
    of = {**{word: word for word in rule.kinds().words()}, name: kind}
    table = rule.kinds().table()
    kinds = Kinds({(x, y): table[of[x], of[y]] for x in of for y in of})
    covers = [pair for pair in can_cover(kinds) if (of[pair[0]], of[pair[1]]) in rule.covers()]
    return Rule(kinds, covers, [pair for pair in can_stop(kinds) if (of[pair[0]], of[pair[1]]) in rule.stops()])


def four_rule():
    """A rule of four kinds of which b and d are alike."""
    return Rule(last_kinds("abcd"), [("a", "b"), ("a", "d"), ("b", "b"), ("b", "d"), ("d", "b"), ("d", "d")], [])


def sample_rules():
    found = list(all_rules("ab"))[::3] + [plain_rule(), store_rule(), short_rule(), pages_rule(), tall_rule(), wild_rule(), four_rule()]
    found.extend([Rule(Kinds({("a", "a"): "a"}), covers, []) for covers in ([], [("a", "a")])])
    found.extend([doubled(rule, "a", "c") for rule in list(all_rules("ab"))[::7]] + [doubled(plain_rule(), "s", "b")])
    draw = random.Random(3)
    for kinds in (last_kinds("abcd"), Kinds({(x, y): "a" for x in "abcd" for y in "abcd"})):
        for _ in range(4):
            found.append(Rule(kinds, [pair for pair in can_cover(kinds) if draw.random() < 0.7], []))
    return found


def partings(items):
    """All partings of items into lists, ascending."""
    if not items:
        return [[]]
    first, *rest = items
    found = []
    for parting in partings(rest):
        found.append([[first]] + parting)
        found.extend([[first] + part] + [other for other in parting if other != part] for part in parting)
    return [sorted(sorted(part) for part in parting) for parting in found]


def folds(rule, lists):
    """Whether lists are a folding, by the document's words."""
    alike = {(one, other) for part in lists for one in part for other in part}
    words, kinds = rule.kinds().words(), rule.kinds()
    for a, b, c, d in itertools.product(words, repeat=4):
        if (a, c) in alike and (b, d) in alike:
            if (kinds.put(a, b), kinds.put(c, d)) not in alike:
                return False
            if ((a, b) in rule.covers()) != ((c, d) in rule.covers()) or ((a, b) in rule.stops()) != ((c, d) in rule.stops()):
                return False
    return True


class Foldings(unittest.TestCase):
    def test_all_partings(self):
        sizes = set()
        for rule in sample_rules():
            every = partings(rule.kinds().words())
            found = sorted(lists for lists in every if folds(rule, lists))
            self.assertEqual(all_foldings(rule), found)
            for lists in every:
                self.assertIs(is_folding(rule, lists), lists in found)
            told = coarsest(rule)
            self.assertIn(told, found)
            for lists in found:
                self.assertTrue(all(any(set(part) <= set(other) for other in told) for part in lists))
            sizes.add((len(rule.kinds().words()), len(told)))
        self.assertTrue({(1, 1), (2, 1), (2, 2), (3, 2), (3, 3), (4, 3)} <= sizes)

    def test_it_judges_any_object(self):
        right = [[["a"], ["s"], ["z"]], [["a"], ["s", "z"]]]
        wrong = [other for one in right for other in bent(one) if other not in right or repr(other) not in map(repr, right)]
        wrong.extend([[["a", "s", "z"]], [["s", "z"], ["a"]], [["a"], ["z", "s"]], [["a"], ["z"], ["s"]], [["a"], ["s"]], [["a"], ["s"], ["s", "z"]],
                      [["a"], [], ["s", "z"]], [["a"], ["s", "z", "z"]], (["a"], ["s", "z"]), [("a",), ("s", "z")], [["a"], "sz"], [["a"], ["s", "z"], ["q"]],
                      [["a", "a"], ["s", "z"]], [["a"], ["a"], ["s", "z"]], {"a": ["a"]}, [["a", "s"], ["z"]]])
        check_judge(self, lambda value: is_folding(plain_rule(), value), right, wrong)
        self.assertIs(is_folding(rule=plain_rule(), value=right[1]), True)

    def test_what_is_returned_may_be_changed(self):
        rule = plain_rule()
        all_foldings(rule)[0][0].clear()
        coarsest(rule=rule)[1].clear()
        self.assertEqual(all_foldings(rule=rule), [[["a"], ["s"], ["z"]], [["a"], ["s", "z"]]])
        self.assertEqual(coarsest(rule), [["a"], ["s", "z"]])

    def test_wrong_arguments(self):
        for call in (all_foldings, coarsest):
            check_wrong(self, call, {"rule": wild_rule()}, wrong_of_rule())
        check_wrong(self, is_folding, {"rule": wild_rule(), "value": None}, wrong_of_rule())


class Tellings(unittest.TestCase):
    def tells(self, rule, one, other, value):
        word, ahead, behind, place, beside = value
        pairs = rule.covers() if word == "cover" else rule.stops()
        made = [made_by(rule.kinds(), ahead + [kind] + behind) for kind in (one, other)]
        found = [((kind, beside) if place == 0 else (beside, kind)) in pairs for kind in made]
        return found[0] != found[1]

    def test_just_the_kinds_of_unlike_lists(self):
        for rule in sample_rules():
            part_of = {kind: at for at, part in enumerate(coarsest(rule)) for kind in part}
            for one, other in itertools.product(rule.kinds().words(), repeat=2):
                told = telling(rule, one, other)
                self.assertIs(told is None, part_of[one] == part_of[other])
                if told is not None:
                    self.assertTrue(self.tells(rule, one, other, told))
                    self.assertIs(is_telling(rule, one, other, told), True)
                    self.assertIs(is_telling(rule, other, one, told), True)

    def test_all_short_ones_are_judged(self):
        for rule in (store_rule(), plain_rule(), short_rule()):
            words = rule.kinds().words()
            around = rows(rule.kinds(), 1) + [words[:2], words]
            for one, other in itertools.product(words, repeat=2):
                for value in itertools.product(("cover", "stop"), around, around, (0, 1), words):
                    self.assertIs(is_telling(rule, one, other, value), self.tells(rule, one, other, value))

    def test_it_judges_any_object(self):
        right = ("stop", [], [], 0, "a")
        wrong = bent(right) + [("cover", [], [], 0, "a"), ("stop", [], [], 1, "a"), ("stop", [], [], 2, "a"), ("stop", [], [], False, "a"),
                               ("stop", [], [], 0, "q"), ("stop", ["q"], [], 0, "a"), ("stop", (), [], 0, "a"), list(right), right[:4], right + (0,),
                               ("stop", [], [], -1, "a"), ("stop", [], None, 0, "a"), ("Stop", [], [], 0, "a"), ("stop", [], [], 0, ["a"]), ("stop", [], [], True, "a")]
        check_judge(self, lambda value: is_telling(store_rule(), "s", "z", value), [right], wrong)
        self.assertIs(is_telling(rule=store_rule(), one="s", other="z", value=right), True)
        self.assertIs(is_telling(store_rule(), "s", "s", right), False)

    def test_what_is_returned_may_be_changed(self):
        rule = store_rule()
        telling(rule=rule, one="a", other="s")[1].append("q")
        self.assertIs(is_telling(rule, "a", "s", telling(rule, "a", "s")), True)

    def test_wrong_arguments(self):
        kinds = (InvalidKind, any_objects() + ["q", "A", ["a"], ("a",)])
        wrong = {**wrong_of_rule(), "one": kinds, "other": kinds}
        check_wrong(self, telling, {"rule": store_rule(), "one": "s", "other": "z"}, wrong)
        check_wrong(self, is_telling, {"rule": store_rule(), "one": "s", "other": "s", "value": None}, wrong)


class FoldedOnes(unittest.TestCase):
    def test_kinds_and_pairs(self):
        for rule in sample_rules():
            for lists in all_foldings(rule):
                lead = {kind: part[0] for part in lists for kind in part}
                told = folded_rule(rule, lists)
                table = rule.kinds().table()
                self.assertEqual(told.kinds().table(), {(a, b): lead[table[a, b]] for a, b in table if lead[a] == a and lead[b] == b})
                self.assertEqual(told.covers(), sorted({(lead[a], lead[b]) for a, b in rule.covers()}))
                self.assertEqual(told.stops(), sorted({(lead[a], lead[b]) for a, b in rule.stops()}))

    def test_the_same_strikes_fit(self):
        for rule in sample_rules():
            book = Book(rule, {kind: kind for kind in rule.kinds().words()})
            for lists in all_foldings(rule):
                other = folded_book(book, lists)
                self.assertEqual(other.rule(), folded_rule(rule, lists))
                self.assertIs(is_settled(rule), is_settled(other.rule()))
                if is_settled(rule):
                    self.assertIs(longest(rule) is None, longest(other.rule()) is None)
                for log in rows(rule.kinds(), 3)[::3]:
                    self.assertEqual(strikes(book, log), strikes(other, log))
                    if is_settled(rule):
                        self.assertEqual(kept(book, log), kept(other, log))

    def test_names(self):
        book = Book(plain_rule(), {"add": "a", "close": "z", "end": "z", "set": "s"})
        told = folded_book(book=book, lists=[["a"], ["s", "z"]])
        self.assertEqual(list(told.names().items()), [("add", "a"), ("close", "s"), ("end", "s"), ("set", "s")])
        self.assertEqual(folded_book(book, [["a"], ["s"], ["z"]]), book)
        self.assertEqual(folded_rule(rule=plain_rule(), lists=[["a"], ["s"], ["z"]]), plain_rule())

    def test_wrong_arguments(self):
        lists = any_objects() + [[["a", "s", "z"]], [["s", "z"], ["a"]], [["a"], ["z", "s"]], [["a"], ["s"]], [["a"], ["s"], ["s", "z"]], [["a"], ["q"]],
                                 [["a"], [], ["s", "z"]], (["a"], ["s", "z"]), [("a",), ("s", "z")], [["a", "s"], ["z"]], [["a"], "s", "z"], [["a"], ["s", "z"], []]]
        for right in ([["a"], ["s"], ["z"]], [["a"], ["s", "z"]]):
            check_wrong(self, folded_rule, {"rule": plain_rule(), "lists": right}, {
                "rule": (InvalidRule, no_rules()), "lists": (InvalidFolding, lists)})
            book = Book(plain_rule(), {"add": "a", "close": "z", "set": "s"})
            check_wrong(self, folded_book, {"book": book, "lists": right}, {"book": (InvalidBook, no_books()), "lists": (InvalidFolding, lists)})
        told = [["a"], ["s", "z"]]
        check_told(self, raised(folded_book, store_book(), told), InvalidFolding, told)

    def test_rules_that_are_not_settled(self):
        lists = [["a"], ["b"], ["c"]]
        self.assertEqual((folded_rule(wild_rule(), lists), folded_book(wild_book(), lists)), (wild_rule(), wild_book()))


class TheExamples(unittest.TestCase):
    def test_those_of_the_document(self):
        state = Kinds({("a", "a"): "a", ("a", "s"): "s", ("a", "z"): "z", ("s", "a"): "s", ("s", "s"): "s", ("s", "z"): "z", ("z", "a"): "z", ("z", "s"): "s", ("z", "z"): "z"})
        covers = [("a", "s"), ("a", "z"), ("s", "s"), ("s", "z"), ("z", "s"), ("z", "z")]
        stopped, plain = Rule(state, covers, [("z", "a")]), Rule(state, covers, [])
        self.assertEqual(
            [coarsest(stopped), coarsest(plain), is_telling(stopped, "s", "z", ("stop", [], [], 0, "a")), telling(plain, "z", "s")],
            [[['a'], ['s'], ['z']], [['a'], ['s', 'z']], True, None])
        self.assertEqual(
            [all_foldings(plain), is_folding(plain, [["a", "s", "z"]]), folded_rule(plain, [["a"], ["s", "z"]]).covers()],
            [[[['a'], ['s'], ['z']], [['a'], ['s', 'z']]], False, [('a', 's'), ('s', 's')]])
        self.assertEqual(
            folded_book(Book(plain, {"add": "a", "set": "s", "close": "z"}), [["a"], ["s", "z"]]).names(),
            {'add': 'a', 'close': 's', 'set': 's'})


if __name__ == "__main__":
    unittest.main()
