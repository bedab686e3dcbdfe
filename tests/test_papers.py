import random
import unittest

from logcores.errors import InvalidBook, InvalidRoad, InvalidRule, InvalidStrike, InvalidText
from logcores.kinds import Kinds
from logcores.logs import Book
from logcores.papers import (book_text, read_book, read_rule, read_strike, read_striking, rule_text, strike_text, striking_text)
from logcores.rules import Rule
from tests.helper import (any_objects, bent, check_told, check_wrong, no_books, no_rules, pages_rule, raised, short_rule, store_book,
                          store_rule, tall_rule, wild_rule)
from tests.oracle import all_rules


def heads_rule():
    """A rule whose kinds have the names of the lines of its text."""
    words = ["covers", "names", "stops"]
    return Rule(Kinds({(x, y): y for x in words for y in words}), [("covers", "stops"), ("names", "names")], [("stops", "stops")])


def heads_book():
    return Book(heads_rule(), {"covers": "names", "names": "covers", "stops": "stops", "cover": "stops"})


def sample_rules():
    return list(all_rules("ab"))[::5] + [store_rule(), short_rule(), pages_rule(), tall_rule(), wild_rule(), heads_rule()]


def bent_texts(text):
    """Texts that are one bent by one sign or by one line."""
    for at in range(len(text) + 1):
        for sign in (" ", "\n", "a", "0", "=", "\t", "A", ""):
            yield text[:at] + sign + text[at:]
            yield text[:at] + sign + text[at + 1:]
    lines = text.split("\n")
    for at in range(len(lines)):
        yield "\n".join(lines[:at] + lines[at + 1:])
        yield "\n".join(lines[:at + 1] + lines[at:])
        yield "\n".join(lines[:at] + lines[at + 1:at + 2] + lines[at:at + 1] + lines[at + 2:])
    yield from (text + "\n", "\n" + text, text + " ", " " + text, text.replace("\n", "\r\n"), text + "\n" + text)


class Papers(unittest.TestCase):
    def check_texts(self, write, read, things):
        """What is written is read again, and just that: a bent text is read only if it is another thing's text."""
        for thing in things:
            text = write(thing)
            self.assertEqual(read(text), thing)
            self.assertEqual(read(text=text), thing)
        for thing in random.Random(2).sample(things, 3) + things[-1:]:
            for other in bent_texts(write(thing)):
                try:
                    made = read(other)
                except InvalidText as error:
                    self.assertIs(error.value, other)
                else:
                    self.assertEqual(write(made), other)

    def check_wrong_texts(self, read, texts, right):
        wrong = [value for value in any_objects()] + texts
        check_wrong(self, read, {"text": right}, {"text": (InvalidText, [value for value in wrong if value != right])})


class RuleTexts(Papers):
    def lines_of(self, rule):
        lines = [f"{a} {b} = {made}" for (a, b), made in sorted(rule.kinds().table().items())]
        return lines + ["covers"] + [f"{a} {b}" for a, b in rule.covers()] + ["stops"] + [f"{a} {b}" for a, b in rule.stops()]

    def test_lines(self):
        for rule in sample_rules():
            self.assertEqual(rule_text(rule=rule), "\n".join(self.lines_of(rule)))
        for book in (store_book(), heads_book()):
            lines = self.lines_of(book.rule()) + ["names"] + [f"{name} {kind}" for name, kind in sorted(book.names().items())]
            self.assertEqual(book_text(book=book), "\n".join(lines))

    def test_what_is_written_is_read(self):
        self.check_texts(rule_text, read_rule, sample_rules())
        books = [Book(rule, {"x": "a", "y": "b", "z": "a"}) for rule in list(all_rules("ab"))[::9]]
        self.check_texts(book_text, read_book, books + [store_book(), heads_book()])

    def test_wrong_texts(self):
        text = "k k = k\ncovers\nk k\nstops"
        texts = ["k k = k", "covers\nstops", "k k = k\ncovers\nk k", "k k = k\nstops\ncovers", "k k = k\ncovers\nk k\nk k\nstops", "k k = k\nk k = k\ncovers\nstops",
                 "k k k\ncovers\nstops", "k k == k\ncovers\nstops", "k k = l\ncovers\nstops", "k l = k\ncovers\nstops", "K K = K\ncovers\nstops", "k  k = k\ncovers\nstops",
                 "k k = k \ncovers\nstops", "k k = k\ncovers \nstops", "k k = k\ncovers\nk l\nstops", "k k = k\ncovers\nk\nstops", "k k = k\ncovers\nk k k\nstops",
                 "k k = k\ncovers\nstops\nk k\n", "k k = k\n\ncovers\nstops", "\nk k = k\ncovers\nstops", "k k = k\ncovers\ncovers\nstops", "k k = k\ncovers\nstops\nstops",
                 "k k = k\ncovers\nstops\nnames\nx k", "k k = kkkkkkkkk\ncovers\nstops", "k k =\ncovers\nstops", text + "\n", " " + text,
                 "a a = b\na b = a\nb a = a\nb b = a\ncovers\nstops", "a b = b\na a = a\nb a = b\nb b = b\ncovers\nstops", "a a = a\na b = b\nb a = b\nb b = b\ncovers\nb b\na b\nstops",
                 "a a = a\na b = b\nb a = b\nb b = b\ncovers\nb a\nstops", 5, text.split("\n"), store_rule()]
        self.check_wrong_texts(read_rule, texts, text)
        book = "k k = k\ncovers\nstops\nnames\nx k"
        texts = ["k k = k\ncovers\nstops\nnames", "k k = k\ncovers\nstops", "k k = k\ncovers\nstops\nx k", "k k = k\ncovers\nstops\nnames\nx l", "k k = k\ncovers\nstops\nnames\nX k",
                 "k k = k\ncovers\nstops\nnames\nx", "k k = k\ncovers\nstops\nnames\nx k k", "k k = k\ncovers\nstops\nnames\nx k\nx k", "k k = k\ncovers\nstops\nnames\ny k\nx k",
                 "k k = k\ncovers\nstops\nnames\nx  k", "k k = k\ncovers\nstops\nnames\n", "k k = k\ncovers\nnames\nx k\nstops", "names\nx k\nk k = k\ncovers\nstops", book + "\n",
                 "k k = k\ncovers\nstops\nnames\nnames\nx k", "k k = k\ncovers\nl k\nstops\nnames\nx k", store_book()]
        self.check_wrong_texts(read_book, texts, book)

    def test_wrong_arguments(self):
        check_wrong(self, rule_text, {"rule": wild_rule()}, {"rule": (InvalidRule, no_rules())})
        check_wrong(self, book_text, {"book": store_book()}, {"book": (InvalidBook, no_books())})


class StrikeTexts(Papers):
    def test_what_is_written_is_read(self):
        strikes = [("cover", 0, 1, 2), ("stop", 0, 1, 12), ("stop", 9, 10, 11), ("cover", 0, 10 ** 29, 10 ** 30 - 1)]
        self.check_texts(strike_text, read_strike, strikes)
        self.check_texts(striking_text, read_striking, [[], strikes, strikes[:1], strikes[::-1], [strikes[1], strikes[1]]])
        self.assertEqual([strike_text(strike=strikes[1]), striking_text(strikes=strikes[:2])], ["stop 0 1 12", "cover 0 1 2\nstop 0 1 12"])
        self.assertEqual((striking_text([]), read_striking(""), read_striking(text="")), ("", [], []))

    def test_wrong_texts(self):
        texts = ["", "cover", "cover 0 1", "cover 0 1 2 3", "Cover 0 1 2", "covers 0 1 2", "cover  0 1 2", "cover 0 1 2 ", " cover 0 1 2", "cover 00 1 2", "cover 0 01 2",
                 "cover 0 1 02", "cover 0 1 1", "cover 0 0 1", "cover 2 1 0", "cover -1 0 1", "cover +0 1 2", "cover 0 1 x", "cover 0 1 2.0", "cover 0 1 1_0", "cover\t0 1 2", "0 1 2",
                 "cover a b c", "cover True 2 3", "stop 0 1 2\r", "cover 0, 1, 2"]
        self.check_wrong_texts(read_strike, texts + ["cover 0 1 2\n", "\ncover 0 1 2", "cover 0 1 2\nstop 0 1 2", ("cover", 0, 1, 2)], "stop 0 1 2")
        lines = [text for text in texts if text] + ["stop 0 1 2\n" + text for text in texts] + ["cover 0 1 2\n", "\ncover 0 1 2", "cover 0 1 2\n\nstop 0 1 2", "\n", " ", []]
        wrong = [value for value in any_objects() if value != ""] + lines
        check_wrong(self, read_striking, {"text": "stop 0 1 2\ncover 0 1 2"}, {"text": (InvalidText, wrong)})

    def test_wrong_strikes(self):
        right = ("cover", 0, 1, 2)
        wrong = bent(right) + [("cover", 0, 1, 1), ("cover", 1, 0, 2), ("cover", False, 1, 2), ("cover", 0, True, 2), ("covers", 0, 1, 2), list(right), right[:3], right + (3,),
                               (["cover"], 0, 1, 2), ("cover", -1, 0, 1), ("cover", "0", 1, 2), "cover 0 1 2"]
        wrong = [value for value in wrong if value not in (("cover", 0, 1, 2),) or repr(value) != repr(right)]
        check_wrong(self, strike_text, {"strike": right}, {"strike": (InvalidStrike, any_objects() + wrong)})
        lists = [value for value in any_objects() if value != []] + [[value] for value in wrong] + [[right, value] for value in wrong] + [(right,), right, {0: right}]
        check_wrong(self, striking_text, {"strikes": [right, right]}, {"strikes": (InvalidRoad, lists)})
        told = [right, None]
        check_told(self, raised(striking_text, told), InvalidRoad, told)


class TheExamples(unittest.TestCase):
    def test_those_of_the_document(self):
        one = Rule(Kinds({("k", "k"): "k"}), [("k", "k")], [])
        self.assertEqual(
            [rule_text(one), book_text(Book(one, {"x": "k"})), read_rule(rule_text(one)) == one, read_book("k k = k\ncovers\nstops\nnames\nx k").names()],
            ['k k = k\ncovers\nk k\nstops', 'k k = k\ncovers\nk k\nstops\nnames\nx k', True, {'x': 'k'}])
        self.assertEqual(
            [striking_text([("cover", 0, 1, 2)]), striking_text([]), read_strike("stop 0 1 12")],
            ['cover 0 1 2', '', ('stop', 0, 1, 12)])


if __name__ == "__main__":
    unittest.main()
