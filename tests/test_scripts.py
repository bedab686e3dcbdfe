import random
import unittest

from logcores.errors import (InvalidBook, InvalidJournal, InvalidScript, InvalidText, Unsettled)
from logcores.journals import Journal
from logcores.kinds import Kinds
from logcores.logs import Book
from logcores.rules import Rule
from logcores.scripts import end_of, play, read_script, script_text, shortened
from tests.helper import any_objects, check_told, check_wrong, no_books, raised, short_book, store_book, wild_book
from tests.test_journals import looked_at, told_by

SCRIPT = [("start", ["up", "set"]), ("write", 0, "more"), ("try", [("write", 0, "end"), ("try", [("undo",), ("undo",)]), ("core_there", 0)]),
          ("undo",), ("redo",), ("start", []), ("throw", 0, [0]), ("change", 1, 0, "up"), ("join", 0, 1), ("kept_there", 0), ("alike_spots", 0), ("back", 0, 1),
          ("compact", 0), ("close", 0), ("undo",)]
NAMES = ["up", "end", "set", "more", "q", "try", "covers"]


def no_scripts():
    """What is no script, and has a script in it where it can."""
    found = [value for value in any_objects() if value != []]
    for command in (
            ["undo"], (), ("start",), ("start", ["up"], 0), ("start", ("up",)), ("start", "up"), ("start", ["Up"]), ("start", [""]), ("start", [None]),
            ("start", ["up", 1]), ("start", ["abcdefghi"]), ("start", None), ("start", [["up"]]), ("start", ["a b"]), ("close",), ("close", -1), ("close", True), ("close", "0"),
            ("close", 0, 0), ("close", None), ("write", 0), ("write", 0, "Up"), ("write", 0, ["up"]), ("write", False, "up"), ("write", "up", 0),
            ("write", 0, "up", "up"), ("write", 0, 1), ("compact", [0]), ("throw", 0), ("throw", 0, [1, 0]), ("throw", 0, [0, 0]), ("throw", 0, (0,)),
            ("throw", 0, ["0"]), ("throw", 0, [False]), ("throw", 0, [-1]), ("throw", 0, 0), ("throw", 0, None), ("throw", [0], 0), ("back", 0), ("back", 0, -1),
            ("back", 0, True), ("change", 0, 0), ("change", 0, "up", 0), ("change", 0, 0, "a1"), ("join", 0), ("join", 0, None), ("core_there",),
            ("core_there", "up"), ("kept_there", 0, 0), ("alike_spots", -1), ("undo", 0), ("redo", []), ("try",), ("try", None), ("try", ()), ("try", [], []),
            ("try", [("try", [("undo", 0)])]), ("try", [["undo"]]), ("Undo",), ("spots",), ("log_there", 0), ("trial",), ("record",), ("copy",), "undo", None, 0, True,
            (["undo"],), (None,), (("undo",),), ([],), {"undo": 0}, ("end",), ("", 0)):
        found.extend([[command], [("undo",), command], [("try", [command])]])
    return found + [("try", []), ("undo",), (("undo",),), {0: ("undo",)}]


class Playing(unittest.TestCase):
    def said_by(self, journal, script):
        """What is said, by calling the methods one by one."""
        said = []
        for word, *given in script:
            if word == "try":
                with journal.trial():
                    said.append(("tried", self.said_by(journal, given[0])))
                continue
            try:
                told = getattr(journal, word)(*given)
            except Exception as error:
                said.append(("refused", type(error).__name__))
            else:
                said.append(("start", told) if word == "start" else ("told", told) if told is not None else ("done",))
        return said

    def drawn(self, draw, size, depth=0):
        script = []
        for _ in range(size):
            word = draw.choice(["start", "write", "write", "throw", "back", "change", "compact", "join", "close", "core_there", "kept_there",
                                "alike_spots", "undo", "redo", "try"])
            spot, name = draw.randrange(3), draw.choice(NAMES[:4] + NAMES[:4] + NAMES)
            if word == "try":
                script.append((word, self.drawn(draw, draw.randrange(4), depth + 1) if depth < 3 else []))
                continue
            given = {"start": [[draw.choice(NAMES[:4] * 3 + NAMES) for _ in range(draw.randrange(4))]], "write": [spot, name], "back": [spot, draw.randrange(4)],
                     "throw": [spot, sorted(draw.sample(range(4), draw.randrange(3)))], "change": [spot, draw.randrange(4), name], "join": [spot, draw.randrange(3)],
                     "undo": [], "redo": []}.get(word, [spot])
            script.append((word, *given))
        return script

    def test_drawn_scripts(self):
        words = set()
        for number in range(150):
            draw = random.Random(number)
            script = [("start", ["up", "set", "up"])] + self.drawn(draw, 11)
            one, other = Journal(store_book()), Journal(store_book())
            said = play(one, script)
            self.assertEqual(said, self.said_by(other, script))
            self.assertEqual(told_by(one), told_by(other))
            words.update(told[1] for told in said if told[0] == "refused")
            self.check_the_end(script, one)
            self.assertEqual(read_script(script_text(script)), script)
        self.assertEqual(words, {"InvalidSpot", "InvalidName", "InvalidLog", "InvalidPlaces", "InvalidCount", "Refused", "NothingToUndo", "NothingToRedo"})

    def check_the_end(self, script, journal):
        end = {spot: journal.log_there(spot) for spot in journal.spots()}
        self.assertEqual(list(end_of(store_book(), script).items()), list(end.items()))
        # What is left out, one command behind the other, from the last one on.
        left = list(script)
        for at in range(len(script) - 1, -1, -1):
            less = left[:at] + left[at + 1:]
            tried = Journal(store_book())
            play(tried, less)
            if {spot: tried.log_there(spot) for spot in tried.spots()} == end:
                left = less
        self.assertEqual(shortened(store_book(), script), left)

    def test_tries_within_tries(self):
        journal = Journal(store_book())
        said = play(journal=journal, script=SCRIPT)
        self.assertEqual(said, [
            ("start", 0), ("told", []), ("tried", [("told", [1, 2]), ("tried", [("done",), ("done",)]), ("told", ["end"])]), ("done",), ("done",), ("start", 1),
            ("done",), ("refused", "InvalidCount"), ("done",), ("told", [0, 1]), ("told", []), ("told", []), ("refused", "Refused"), ("done",), ("done",)])
        self.assertEqual(looked_at(journal), [(0, ["set"], ["set"], [0], [])])

    def test_the_journal_that_is_passed_changes_and_the_script_does_not(self):
        journal = Journal(store_book())
        journal.start(["set"])
        script = [("write", 0, "up"), ("start", ["up", "set"]), ("throw", 1, [0]), ("try", [("close", 0)])]
        said = play(journal, script)
        self.assertEqual((said, journal.spots(), journal.log_there(0)), ([("told", []), ("start", 1), ("done",), ("tried", [("done",)])], [0, 1], ["set", "up"]))
        script[1][1].clear()
        script[2][2].clear()
        self.assertEqual(journal.record(), [("start", ["set"]), ("write", 0, "up"), ("start", ["up", "set"]), ("throw", 1, [0])])
        self.assertEqual(play(journal, []), [])

    def test_what_is_said_may_be_changed(self):
        journal = Journal(store_book())
        said = play(journal, [("start", ["set", "up"]), ("core_there", 0), ("kept_there", 0), ("alike_spots", 0)])
        for told in said[1:]:
            told[1].append("q")
        self.assertEqual(looked_at(journal), [(0, ["set", "up"], ["set", "up"], [0, 1], [])])

    def test_an_error_that_another_one_would_follow(self):
        journal = Journal(store_book())
        self.assertEqual(play(journal, [("change", 0, 9, "q"), ("start", ["up"]), ("change", 0, 9, "q"), ("change", 0, 0, "q"), ("join", 0, 0), ("join", 1, 0)]),
                         [("refused", word) for word in ("InvalidSpot",)] + [("start", 0)]
                         + [("refused", word) for word in ("InvalidCount", "InvalidName", "InvalidSpot", "InvalidSpot")])

    def test_wrong_arguments(self):
        journals = any_objects() + [store_book(), [Journal(store_book())]]
        scripts = (InvalidScript, no_scripts())
        check_wrong(self, play, {"journal": Journal(store_book()), "script": SCRIPT}, {"journal": (InvalidJournal, journals), "script": scripts})
        check_wrong(self, end_of, {"book": store_book(), "script": SCRIPT}, {"book": (InvalidBook, no_books()), "script": scripts})
        check_wrong(self, shortened, {"book": store_book(), "script": SCRIPT[:4]}, {"book": (InvalidBook, no_books()), "script": scripts})
        book = wild_book()
        # That the book is settled is looked at where the journal is made: ahead of the script.
        for call in (end_of, shortened):
            for script in (SCRIPT, None, [("undo", 0)]):
                check_told(self, raised(call, book, script), Unsettled, book)
                check_told(self, raised(call, book=book, script=script), Unsettled, book)

    def test_a_wrong_script_changes_nothing(self):
        journal = Journal(store_book())
        for script in no_scripts():
            check_told(self, raised(play, journal, script), InvalidScript, script)
        self.assertEqual(journal.record(), [])
        self.assertIs(type(raised(journal.undo)).__name__, "NothingToUndo")


class Ends(unittest.TestCase):
    def test_tries_undo_and_redo(self):
        script = [("try", [("start", ["up"])]), ("start", ["set"]), ("write", 0, "up"), ("undo",), ("redo",), ("try", [("undo",)]), ("start", []), ("undo",)]
        self.assertEqual(end_of(book=store_book(), script=script), {0: ["set", "up"]})
        # The redo is looked at ahead of the undo that gives it something to do, the last undo ahead of its start.
        self.assertEqual(shortened(book=store_book(), script=script), [script[at] for at in (1, 2, 4, 6, 7)])

    def test_undo_is_needed_with_what_it_takes_back(self):
        script = [("start", ["set"]), ("write", 0, "up"), ("undo",), ("close", 0), ("undo",), ("redo",)]
        self.assertEqual(end_of(store_book(), script), {})
        # The close is needed as long as there is a start, which goes last.
        self.assertEqual(shortened(store_book(), script), [("close", 0), ("redo",)])
        script = [("start", ["set"]), ("close", 0), ("start", ["set"])]
        self.assertEqual((end_of(store_book(), script), shortened(store_book(), script)), ({1: ["set"]}, script))
        script = [("start", ["set"]), ("close", 0), ("undo",)]
        self.assertEqual(shortened(store_book(), script), script)

    def test_of_nothing(self):
        self.assertEqual((end_of(short_book(), []), shortened(short_book(), [])), ({}, []))
        self.assertEqual((end_of(short_book(), [("undo",), ("start", ["q", "x"])]), shortened(short_book(), [("undo",)])), ({}, []))

    def test_what_is_passed_and_returned_may_be_changed(self):
        script = [("start", ["up", "set"]), ("throw", 0, [0]), ("try", [("start", ["up"])])]
        kept = read_script(script_text(script))
        told = shortened(store_book(), script)
        told[0][1].append("q")
        told[1][2].clear()
        end_of(store_book(), script)[0].clear()
        self.assertEqual((script, shortened(store_book(), script), end_of(store_book(), script)), (kept, kept[:2], {0: ["set"]}))

    def test_each_command_of_twelve(self):
        script = [("start", ["up"]), *[("write", 0, name) for name in ("up", "set", "more", "up", "end")], ("core_there", 0), ("try", [("compact", 0)]),
                  ("start", ["up"]), ("close", 1), ("write", 0, "q"), ("kept_there", 0)]
        self.assertEqual(shortened(store_book(), script), script[:6] + [("close", 1)])


class Texts(unittest.TestCase):
    def test_lines_of_all_commands(self):
        script = SCRIPT + [("start", ["end", "try"]), ("throw", 3, []), ("try", []), ("close", 10 ** 29)]
        text = "\n".join([
            "start up set", "write 0 more", "try", "  write 0 end", "  try", "    undo", "    undo", "  end", "  core_there 0", "end", "undo", "redo", "start",
            "throw 0 0", "change 1 0 up", "join 0 1", "kept_there 0", "alike_spots 0", "back 0 1", "compact 0", "close 0", "undo", "start end try", "throw 3",
            "try", "end", "close 1" + "0" * 29])
        self.assertEqual(script_text(script=script), text)
        self.assertEqual(read_script(text=text), script)
        self.assertEqual((script_text([]), read_script("")), ("", []))

    def test_all_bent_texts(self):
        for script in (SCRIPT, [("throw", 0, [0, 10]), ("try", [("start", [])])], [("try", [("try", [("try", [("try", [])])])])]):
            text = script_text(script)
            for at in range(len(text) + 1):
                for sign in (" ", "\n", "0", "x", "\t", "~", ""):
                    self.check_text(text[:at] + sign + text[at:])
                    self.check_text(text[:at] + sign + text[at + 1:])
            lines = text.split("\n")
            for at in range(len(lines)):
                self.check_text("\n".join(lines[:at] + lines[at + 1:]))
                self.check_text("\n".join(lines[:at] + lines[at:at + 1] + lines[at:]))

    def check_text(self, text):
        """A text is read exactly if it is the text of a script, and then of the script that is read."""
        try:
            script = read_script(text)
        except InvalidText as error:
            self.assertIs(error.value, text)
        else:
            self.assertEqual(script_text(script), text)

    def test_wrong_texts(self):
        texts = [value for value in any_objects() if value != ""] + [
            "undo\n", "\nundo", " undo", "undo ", "undo 0", "undo\n\nredo", "close", "close 00", "close 01", "close -1", "close +1", "close 1.0", "close x", "close  0",
            "close 0 0", "close 0 ", "start ", "start  up", "start Up", "start up ", "start 0", "start abcdefghi", "write 0", "write up 0", "write 0 up up", "throw", "throw 0 1 0",
            "throw 0 0 0", "throw 0 x", "throw 0 ", "back 0", "change 0 0", "change 0 0 0", "join 0", "core_there", "kept_there x", "alike_spots 0 1", "redo 1", "try", "end",
            "try end", "try\nundo\nend", "try\n undo\nend", "try\n   undo\nend", "try\n  undo", "try\n  undo\n  end", "try\n  undo\n end", "try\nend\nend", "try\n  end", "try \nend",
            "try\nend ", "try\n  try\n  end", "try\n  try\nend\nend", "  undo", "undo\n  redo", "Undo", "undo\tredo", "undo\r", "close 0_0", "spots", "end\ntry",
            "try\n\nend", "try\n  \nend", "start up\tset", b"undo"]
        check_wrong(self, read_script, {"text": "undo"}, {"text": (InvalidText, texts)})

    def test_wrong_scripts(self):
        check_wrong(self, script_text, {"script": SCRIPT}, {"script": (InvalidScript, no_scripts())})

    def test_names_need_not_be_of_any_book(self):
        script = [("start", ["undo", "start"]), ("write", 7, "end"), ("change", 0, 0, "try")]
        self.assertEqual(script_text(script), "start undo start\nwrite 7 end\nchange 0 0 try")
        self.assertEqual(read_script(script_text(script)), script)


class TheExamples(unittest.TestCase):
    def test_those_of_the_document(self):
        book = Book(Rule(Kinds({("k", "k"): "k"}), [("k", "k")], []), {"x": "k", "y": "k"})
        day = [("start", ["x", "y"]), ("write", 0, "x"), ("core_there", 0), ("try", [("compact", 0), ("compact", 0)]), ("back", 0, 2), ("throw", 0, []), ("start", ["z"])]
        self.assertEqual(
            play(Journal(book), day),
            [('start', 0), ('told', [1]), ('told', ['x']), ('tried', [('told', [0, 1]), ('refused', 'Refused')]), ('told', [0]), ('refused', 'InvalidPlaces'), ('refused', 'InvalidLog')])
        self.assertEqual(
            [end_of(book, day), shortened(book, day) == [day[0], day[1], day[4]], read_script(script_text(day)) == day],
            [{0: ['x']}, True, True])
        self.assertEqual(
            script_text([("start", []), ("change", 0, 10, "y"), ("throw", 0, [0, 2]), ("try", [("undo",)])]),
            'start\nchange 0 10 y\nthrow 0 0 2\ntry\n  undo\nend')


if __name__ == "__main__":
    unittest.main()
