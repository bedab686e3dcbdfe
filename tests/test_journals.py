import random
import unittest

from logcores.cores import core, kept
from logcores.errors import (CoreError, InvalidBook, InvalidCount, InvalidJournal, InvalidLog, InvalidName, InvalidPlaces,
                             InvalidRecord, InvalidSpot, NothingToRedo, NothingToUndo, Refused, Unsettled)
from logcores.journals import Journal, replayed
from logcores.kinds import Kinds
from logcores.logs import Book
from logcores.rules import Rule
from logcores.safelots import is_safe
from tests.helper import (any_objects, check_told, check_wrong, no_books, no_counts, no_logs, raised, short_book, store_book,
                          wild_book)
from tests.oracle import core_of

LOG = ["up", "set", "more", "up", "end", "up"]


def kept_in(book, log):
    return core_of(book.rule(), [book.names()[name] for name in log])


def struck_in(book, log):
    return [place for place in range(len(log)) if place not in kept_in(book, log)]


def told_by(journal):
    """All that the methods of a journal tell, with what can be undone and made again."""
    found = [looked_at(journal), journal.record()]
    back = journal.copy()
    while True:
        try:
            back.undo()
        except NothingToUndo:
            break
        found.append(looked_at(back))
    again = journal.copy()
    while True:
        try:
            again.redo()
        except NothingToRedo:
            break
        found.extend([looked_at(again), again.record()])
    return found


def looked_at(journal):
    spots = journal.spots()
    return [(spot, journal.log_there(spot), journal.core_there(spot), journal.kept_there(spot), journal.alike_spots(spot)) for spot in spots]


class Plain:
    """A journal in the document's plain words: the list of the commands that are made, told again from the first one."""

    def __init__(self, book):
        self.book, self.made, self.gone = book, [], []

    def logs(self):
        """The next spot and the logs that the commands leave."""
        number, logs = 0, {}
        for word, *given in self.made:
            if word == "start":
                logs[number] = list(given[0])
                number += 1
            elif word == "close":
                del logs[given[0]]
            elif word == "write":
                logs[given[0]] = logs[given[0]] + [given[1]]
            elif word == "compact":
                logs[given[0]] = [logs[given[0]][at] for at in kept_in(self.book, logs[given[0]])]
            elif word == "throw":
                logs[given[0]] = [name for at, name in enumerate(logs[given[0]]) if at not in given[1]]
            elif word == "back":
                logs[given[0]] = logs[given[0]][:-given[1]]
            elif word == "change":
                logs[given[0]] = [given[2] if at == given[1] else name for at, name in enumerate(logs[given[0]])]
            else:
                logs[given[0]] = logs[given[0]] + logs.pop(given[1])
        return number, logs

    def make(self, command):
        """Make a command that is right, and return what it tells."""
        number, before = self.logs()
        self.made, self.gone = self.made + [command], []
        word, *given = command
        if word == "start":
            return number
        if word in ("close", "throw", "join"):
            return None
        old, new = before[given[0]], self.logs()[1][given[0]]
        struck, kept_now = struck_in(self.book, old), kept_in(self.book, new)
        if word == "write":
            return [at for at in struck_in(self.book, new) if at not in struck]
        if word == "compact":
            return struck
        if word == "back":
            return [at for at in kept_now if at in struck]
        others = [at for at in range(len(new)) if at != given[1]]
        return ([at for at in others if at not in struck and at not in kept_now], [at for at in others if at in struck and at in kept_now])

    def undo(self):
        self.gone.append(self.made.pop())

    def redo(self):
        self.made.append(self.gone.pop())


def drawn_command(draw, plain):
    """A command, perhaps none that can be made."""
    names, logs = list(plain.book.names()), plain.logs()[1]
    spot = draw.choice([*logs, *logs, *logs, len(logs) + 3]) if logs else 0
    log = logs.get(spot, [])
    word = draw.choice(["start", "write", "write", "write", "compact", "throw", "throw", "back", "change", "join", "close"])
    if word == "start":
        return (word, [draw.choice(names) for _ in range(draw.randrange(5))])
    if word in ("close", "compact"):
        return (word, spot)
    if word == "write":
        return (word, spot, draw.choice([*names, *names, "q"]))
    if word == "throw":
        places = struck_in(plain.book, log) if draw.random() < 0.8 else list(range(len(log) + 1))
        return (word, spot, [place for place in places if draw.random() < 0.6])
    if word == "back":
        return (word, spot, draw.randrange(4))
    if word == "change":
        return (word, spot, draw.randrange(6), draw.choice(names))
    return (word, spot, draw.choice([*logs, spot]))


def error_of(plain, command):
    """The class of the error, and the argument, that a command has to raise, None if it can be made."""
    word, *given = command
    logs, names = plain.logs()[1], plain.book.names()
    if word == "start":
        return None
    if given[0] not in logs:
        return InvalidSpot, given[0]
    log = logs[given[0]]
    struck = struck_in(plain.book, log)
    if word == "write" and given[1] not in names:
        return InvalidName, given[1]
    if word == "compact" and not struck:
        return Refused, given[0]
    if word == "throw" and (not given[1] or not set(given[1]) <= set(struck)):
        return InvalidPlaces, given[1]
    if word == "throw" and not is_safe(plain.book, log, given[1]):
        return Refused, given[1]
    if word == "back" and not 1 <= given[1] <= len(log):
        return InvalidCount, given[1]
    if word == "change" and not 0 <= given[1] < len(log):
        return InvalidCount, given[1]
    if word == "join" and (given[1] not in logs or given[1] == given[0]):
        return InvalidSpot, given[1]
    return None


class DrawnCommands(unittest.TestCase):
    def check_same(self, journal, plain):
        logs = plain.logs()[1]
        self.assertEqual(journal.spots(), sorted(logs))
        self.assertEqual(journal.record(), plain.made)
        for spot, log in logs.items():
            places = kept_in(plain.book, log)
            self.assertEqual((journal.log_there(spot), journal.kept_there(spot)), (log, places))
            self.assertEqual(journal.core_there(spot), [log[place] for place in places])
            alike = [other for other in sorted(logs) if other != spot
                     and [logs[other][at] for at in kept_in(plain.book, logs[other])] == journal.core_there(spot)]
            self.assertEqual(journal.alike_spots(spot), alike)

    def make(self, journal, plain, command):
        """Make a command on both, and return the class of the error that it raises."""
        wrong = error_of(plain, command)
        call = getattr(journal, command[0])
        if wrong is None:
            self.assertEqual(call(*command[1:]), plain.make(command))
            return None
        before = told_by(journal)
        check_told(self, raised(call, *command[1:]), *wrong)
        self.assertEqual(told_by(journal), before)
        return wrong[0]

    def step(self, draw, journal, plain):
        kind = draw.random()
        if kind < 0.12:
            if plain.made:
                self.assertIs(journal.undo(), None)
                plain.undo()
            else:
                self.assertIs(type(raised(journal.undo)), NothingToUndo)
        elif kind < 0.2:
            if plain.gone:
                self.assertIs(journal.redo(), None)
                plain.redo()
            else:
                self.assertIs(type(raised(journal.redo)), NothingToRedo)
        else:
            return self.make(journal, plain, drawn_command(draw, plain))
        return None

    def test_all_commands_in_drawn_orders(self):
        seen = set()
        for number in range(60):
            draw = random.Random(number)
            book = draw.choice([store_book(), short_book(), Book(store_book().rule(), {"a": "a", "s": "s", "z": "z"})])
            journal, plain = Journal(book), Plain(book)
            for _ in range(30):
                seen.add(self.step(draw, journal, plain))
                self.check_same(journal, plain)
                if draw.random() < 0.15:
                    self.try_a_block(draw, journal, plain)
                    self.check_same(journal, plain)
            self.assertEqual(looked_at(replayed(Journal(book), journal.record())), looked_at(journal))
            self.assertEqual(replayed(Journal(book), journal.record()).record(), journal.record())
        self.assertEqual(seen, {None, InvalidSpot, InvalidName, Refused, InvalidPlaces, InvalidCount})

    def try_a_block(self, draw, journal, plain):
        """Make some commands in a block: at its end all is as it was, what can be undone and made again, too."""
        before = told_by(journal)
        within = Plain(plain.book)
        within.made, within.gone = list(plain.made), list(plain.gone)
        with journal.trial() as name:
            self.assertIs(name, journal)
            for _ in range(draw.randrange(6)):
                self.step(draw, journal, within)
                self.check_same(journal, within)
            copied = journal.copy()
        self.assertEqual(told_by(journal), before)
        self.check_same(copied, within)


class Commands(unittest.TestCase):
    def journal(self):
        journal = Journal(store_book())
        journal.start(list(LOG))
        journal.start(["set", "up"])
        return journal

    def check_refused(self, journal, call, *wrongs):
        """Check errors of a method: wrong ones as (class, argument, arguments), and that they change nothing."""
        before = told_by(journal)
        for kind, value, given in wrongs:
            check_told(self, raised(call, *given.values()), kind, value)
            check_told(self, raised(call, **given), kind, value)
        self.assertEqual(told_by(journal), before)

    def no_spots(self):
        return [value for value in any_objects() if value is True or value is False or value not in (0, 1)] + [2, -1, 10 ** 29, "0", [0], (0,), {0: 0}]

    def check_spots(self, call, spots=("spot",), **more):
        journal = self.journal()
        for value in self.no_spots():
            for spot in spots:
                given = {**{other: at for at, other in enumerate(spots)}, **more, spot: value}
                self.check_refused(journal, getattr(journal, call), (InvalidSpot, value, given))
            worse = {**{other: value for other in spots}, **{other: None for other in more}}
            self.check_refused(journal, getattr(journal, call), (InvalidSpot, value, worse))

    def test_spots_of_all_commands(self):
        for call in ("close", "compact", "log_there", "core_there", "kept_there", "alike_spots"):
            self.check_spots(call)
        self.check_spots("write", name="up")
        self.check_spots("throw", places=[0])
        self.check_spots("back", many=1)
        self.check_spots("change", place=0, name="up")
        self.check_spots("join", ("one", "other"))

    def test_a_closed_spot_is_none(self):
        journal = self.journal()
        self.assertIs(journal.close(0), None)
        for call, given in (("close", ()), ("log_there", ()), ("core_there", ()), ("kept_there", ()), ("alike_spots", ()), ("compact", ()),
                            ("write", ("up",)), ("throw", ([0],)), ("back", (1,)), ("change", (0, "up")), ("join", (1,))):
            check_told(self, raised(getattr(journal, call), 0, *given), InvalidSpot, 0)
        check_told(self, raised(journal.join, 1, 0), InvalidSpot, 0)
        self.assertEqual((journal.spots(), journal.start([]), journal.spots()), ([1], 2, [1, 2]))

    def test_start(self):
        journal = Journal(book=store_book())
        for value in no_logs():
            self.check_refused(journal, journal.start, (InvalidLog, value, {"log": value}))
        self.assertEqual([journal.start(log=[]), journal.start(["up"]), journal.close(spot=1), journal.start(["set"])], [0, 1, None, 2])
        journal.undo()
        self.assertEqual((journal.start([]), journal.spots()), (2, [0, 2]))
        with journal.trial():
            self.assertEqual(journal.start([]), 3)
        self.assertEqual(journal.start([]), 3)

    def test_start_behind_a_start_that_was_taken_back(self):
        journal = Journal(store_book())
        self.assertEqual([journal.start(["up"]), journal.undo(), journal.start(["set"]), journal.log_there(0)], [0, None, 0, ["set"]])
        self.assertIs(type(raised(journal.redo)), NothingToRedo)

    def test_write(self):
        journal = self.journal()
        for value in any_objects() + ["q", "Up", ["up"], ("up",), "a"]:
            self.check_refused(journal, journal.write, (InvalidName, value, {"spot": 0, "name": value}))
        self.assertEqual([journal.write(spot=1, name="more"), journal.write(1, "set"), journal.write(1, "end"), journal.write(1, "up")],
                         [[], [0, 1, 2], [3], [5]])
        self.assertEqual(journal.log_there(spot=1), ["set", "up", "more", "set", "end", "up"])

    def test_compact(self):
        journal = self.journal()
        self.assertEqual((journal.compact(spot=0), journal.log_there(0)), ([0, 1, 2, 3, 5], ["end"]))
        self.check_refused(journal, journal.compact, (Refused, 0, {"spot": 0}), (Refused, 1, {"spot": 1}))
        journal.start([])
        check_told(self, raised(journal.compact, 2), Refused, 2)

    def test_throw(self):
        kinds = Kinds({("a", "a"): "a", ("a", "b"): "a", ("b", "a"): "b", ("b", "b"): "b"})
        journal = Journal(Book(Rule(kinds, [("a", "a")], []), {"x": "a", "y": "b"}))
        journal.start(["x", "y", "x"])
        wrong = any_objects() + [[2], [0, 2], [1, 0], [0, 0], [3], [-1], [False], [True], ["0"], [[0]], [None], (0,), (0, 1), {0: 1}, 0]
        for value in wrong:
            self.check_refused(journal, journal.throw, (InvalidPlaces, value, {"spot": 0, "places": value}))
        places = [0]
        self.check_refused(journal, journal.throw, (Refused, places, {"spot": 0, "places": places}))
        self.assertEqual((journal.throw(spot=0, places=[0, 1]), journal.log_there(0)), (None, ["x"]))

    def test_back(self):
        journal = self.journal()
        for value in no_counts() + [0, 7, 10 ** 29]:
            self.check_refused(journal, journal.back, (InvalidCount, value, {"spot": 0, "many": value}))
        self.assertEqual((journal.back(spot=0, many=2), journal.log_there(0)), ([1, 2, 3], ["up", "set", "more", "up"]))
        self.assertEqual((journal.back(0, 4), journal.log_there(0)), ([], []))
        check_told(self, raised(journal.back, 0, 1), InvalidCount, 1)

    def test_change(self):
        journal = self.journal()
        for value in no_counts() + [6, 10 ** 29]:
            self.check_refused(journal, journal.change, (InvalidCount, value, {"spot": 0, "place": value, "name": "up"}),
                               (InvalidCount, value, {"spot": 0, "place": value, "name": None}))
        for value in any_objects() + ["q", "a"]:
            self.check_refused(journal, journal.change, (InvalidName, value, {"spot": 0, "place": 0, "name": value}))
        self.assertEqual(journal.change(spot=0, place=4, name="up"), ([], [1, 2, 3, 5]))
        self.assertEqual(journal.change(0, 4, "end"), ([1, 2, 3, 5], []))
        self.assertEqual((journal.change(0, 4, "end"), journal.log_there(0), len(journal.record())), (([], []), LOG, 5))

    def test_join(self):
        journal = self.journal()
        self.check_refused(journal, journal.join, (InvalidSpot, 0, {"one": 0, "other": 0}), (InvalidSpot, 2, {"one": 0, "other": 2}))
        self.assertIs(journal.join(one=1, other=0), None)
        self.assertEqual((journal.spots(), journal.log_there(1)), ([1], ["set", "up"] + LOG))
        self.assertEqual(journal.start([]), 2)

    def test_two_spots_with_one_log(self):
        journal = Journal(store_book())
        log = ["set", "up"]
        self.assertEqual([journal.start(log), journal.start(log)], [0, 1])
        journal.write(0, "up")
        log.append("end")
        self.assertEqual((journal.log_there(0), journal.log_there(1)), (["set", "up", "up"], ["set", "up"]))
        self.assertEqual(journal.alike_spots(spot=1), [])
        journal.back(0, 1)
        self.assertEqual((journal.alike_spots(0), journal.alike_spots(1)), ([1], [0]))

    def test_what_is_passed_and_returned_may_be_changed(self):
        journal, places = Journal(store_book()), [0, 1]
        journal.start(["up", "up", "set"])
        journal.throw(0, places)
        places.clear()
        record = journal.record()
        record[0][1].clear()
        record[1][2].clear()
        record.clear()
        for told in (journal.spots(), journal.log_there(0), journal.core_there(0), journal.kept_there(0), journal.alike_spots(0)):
            told.append(7)
        self.assertEqual(journal.record(), [("start", ["up", "up", "set"]), ("throw", 0, [0, 1])])
        self.assertEqual(looked_at(journal), [(0, ["set"], ["set"], [0], [])])

    def test_wrong_books(self):
        book = wild_book()
        check_wrong(self, Journal, {"book": store_book()}, {"book": (InvalidBook, no_books())})
        check_told(self, raised(Journal, book), Unsettled, book)
        check_told(self, raised(Journal, book=book), Unsettled, book)

    def test_it_is_equal_to_itself(self):
        journal = self.journal()
        self.assertTrue(journal == journal)


class UndoAndRedo(unittest.TestCase):
    def test_nothing_to_do(self):
        journal = Journal(store_book())
        for call, kind in ((journal.undo, NothingToUndo), (journal.redo, NothingToRedo)):
            error = raised(call)
            self.assertIs(type(error), kind)
            self.assertFalse(hasattr(error, "value"))

    def test_questions_and_what_is_refused_are_no_commands(self):
        journal = Journal(store_book())
        journal.start(["set"])
        journal.write(0, "up")
        journal.undo()
        for call in (lambda: journal.compact(0), lambda: journal.write(0, "q"), lambda: journal.close(1), lambda: journal.start(None)):
            raised(call)
        looked_at(journal)
        self.assertEqual([journal.redo(), journal.log_there(0), journal.record()], [None, ["set", "up"], [("start", ["set"]), ("write", 0, "up")]])

    def test_across_blocks(self):
        journal = Journal(store_book())
        journal.start(["set"])
        journal.write(0, "up")
        journal.write(0, "more")
        journal.undo()
        before = told_by(journal)
        with journal.trial():
            journal.undo()
            journal.undo()
            self.assertEqual(journal.spots(), [])
            self.assertIs(type(raised(journal.undo)), NothingToUndo)
        self.assertEqual(told_by(journal), before)
        with journal.trial():
            journal.redo()
            self.assertEqual(journal.log_there(0), ["set", "up", "more"])
        self.assertEqual(told_by(journal), before)
        with journal.trial():
            journal.write(0, "end")
        self.assertEqual((told_by(journal), journal.redo(), journal.log_there(0)), (before, None, ["set", "up", "more"]))


class Blocks(unittest.TestCase):
    def test_left_by_an_error_that_goes_on(self):
        journal = Journal(store_book())
        journal.start(["set"])
        before = told_by(journal)
        for error in (ValueError("x"), Refused(1), KeyboardInterrupt()):
            with self.assertRaises(type(error)) as caught:
                with journal.trial():
                    journal.write(0, "up")
                    raise error
            self.assertIs(caught.exception, error)
            self.assertEqual(told_by(journal), before)

    def test_blocks_within_blocks(self):
        journal, states = Journal(store_book()), []
        journal.start(["set"])

        def deeper(level):
            states.append(told_by(journal))
            with journal.trial() as same:
                self.assertIs(same, journal)
                journal.write(0, "up")
                if level:
                    deeper(level - 1)
                journal.undo()
            self.assertEqual(told_by(journal), states.pop())
            return level

        self.assertEqual(deeper(9), 9)

    def test_a_block_begins_when_it_is_entered(self):
        journal = Journal(store_book())
        block = journal.trial()
        journal.start(["set"])
        with block:
            journal.close(0)
        self.assertEqual(journal.spots(), [0])

    def test_a_block_that_is_left_by_return(self):
        journal = Journal(store_book())

        def tried():
            with journal.trial():
                return journal.start(["up"])

        self.assertEqual((tried(), tried(), journal.spots(), journal.record()), (0, 0, [], []))

    def test_attempts(self):
        journal, told, calls = Journal(store_book()), object(), []

        def action(passed):
            calls.append(passed)
            passed.start(["up"])
            passed.start(["set"])
            self.assertEqual(passed.attempt(lambda inner: [inner.close(0), inner.spots()]), [None, [1]])
            self.assertEqual(passed.spots(), [0, 1])
            return told

        self.assertIs(journal.attempt(action), told)
        self.assertEqual((journal.spots(), len(calls), calls[0] is journal), ([], 1, True))
        error = Refused("x")

        def failing(passed):
            passed.start([])
            raise error

        with self.assertRaises(Refused) as caught:
            journal.attempt(action=failing)
        self.assertIs(caught.exception, error)
        self.assertEqual(journal.record(), [])


class Copies(unittest.TestCase):
    def test_they_are_the_same_and_independent(self):
        journal = Journal(store_book())
        journal.start(["set"])
        journal.write(0, "up")
        journal.write(0, "up")
        journal.undo()
        copied = journal.copy().copy()
        self.assertEqual(told_by(copied), told_by(journal))
        before = told_by(journal)
        copied.redo()
        copied.start([])
        self.assertEqual(told_by(journal), before)
        journal.close(0)
        self.assertEqual((copied.spots(), copied.log_there(0), journal.spots()), ([0, 1], ["set", "up", "up"], []))

    def test_those_made_within_a_block_are_in_none(self):
        journal = Journal(store_book())
        journal.start(["set"])
        with journal.trial():
            journal.write(0, "end")
            copied = journal.copy()
            with copied.trial():
                copied.close(0)
            copied.write(0, "set")
        self.assertEqual((journal.log_there(0), copied.log_there(0)), (["set"], ["set", "end", "set"]))
        copied.undo()
        copied.undo()
        self.assertEqual(copied.log_there(0), ["set"])


class Records(unittest.TestCase):
    def day(self):
        return [("start", ["up", "set"]), ("start", ["end", "up"]), ("write", 0, "more"), ("throw", 0, [0]), ("change", 1, 0, "set"), ("write", 1, "set"),
                ("compact", 1), ("write", 1, "up"), ("back", 1, 1), ("start", []), ("join", 0, 1), ("close", 2)]

    def test_all_words(self):
        journal = Journal(store_book())
        made = replayed(journal=journal, record=self.day())
        self.assertEqual((made.record(), made.spots(), made.log_there(0)), (self.day(), [0], ["set", "more", "set"]))
        self.assertEqual((journal.record(), journal.spots()), ([], []))
        self.assertEqual(replayed(made, []).record(), self.day())
        self.assertEqual([made.undo() for _ in self.day()], [None] * 12)

    def test_a_copy_with_what_can_be_made_again(self):
        journal = Journal(store_book())
        journal.start(["up"])
        journal.undo()
        self.assertEqual(replayed(journal, []).redo(), None)
        self.assertIs(type(raised(replayed(journal, [("start", [])]).redo)), NothingToRedo)

    def test_the_error_of_the_first_command_that_raises_one(self):
        journal = Journal(store_book())
        journal.start(["set"])
        before = told_by(journal)
        for value in any_objects():
            for command, kind in ((("write", 0, value), InvalidName), (("throw", 0, value), InvalidPlaces), (("change", 0, value, None), InvalidCount)):
                if command[0] != "change" or type(value) is not int or value not in (0, 1):
                    check_told(self, raised(replayed, journal, [("write", 0, "up"), command, ("close", 7)]), kind, value)
            if value != 0 or value is False:
                check_told(self, raised(replayed, journal, [("close", value), ("compact", 0)]), InvalidSpot, value)
        check_told(self, raised(replayed, journal, [("compact", 0), ("close", 7)]), Refused, 0)
        self.assertEqual(told_by(journal), before)

    def test_wrong_arguments(self):
        journals = [value for value in any_objects()] + [store_book(), [Journal(store_book())], Journal]
        records = [value for value in any_objects() if value != []] + [
            tuple(self.day()), [["close", 0]], [("close",)], [("close", 0, 1)], [()], [("undo",)], [("redo",)], [("core_there", 0)], [("try", [])], ["close"],
            [("Close", 0)], [(None, 0)], [(["close"], 0)], [("write", 0)], [("start",)], [("start", [], 0)], [("change", 0, 0)], [("join", 0)], [(0, "close")],
            [("back", 0)], [("throw", 0)], [("compact",)], self.day() + [None], [self.day()], {"close": 0}, [(True, 0)], [("spots",)]]
        check_wrong(self, replayed, {"journal": Journal(store_book()), "record": self.day()}, {
            "journal": (InvalidJournal, journals), "record": (InvalidRecord, records)})


class WithTheOtherModules(unittest.TestCase):
    def test_cores_and_kept_places_fit(self):
        book = store_book()
        journal = Journal(book)
        journal.start(list(LOG))
        self.assertEqual((journal.core_there(0), journal.kept_there(0)), (core(book, LOG), kept(book, LOG)))

    def test_errors_are_of_the_package(self):
        self.assertIsInstance(raised(Journal(store_book()).undo), CoreError)


class TheExamples(unittest.TestCase):
    def test_those_of_the_document(self):
        state = Kinds(dict([((x, y), "z" if x == "z" and y == "a" else "s" if (x, y) == ("s", "a") else x if x == y else y) for x in "asz" for y in "asz"]))
        rule = Rule(state, [("a", "s"), ("a", "z"), ("s", "s"), ("s", "z"), ("z", "s"), ("z", "z")], [("z", "a")])
        book = Book(rule, {"end": "z", "more": "a", "set": "s", "up": "a"})
        journal = Journal(book)
        self.assertEqual(
            [journal.start(["up", "set"]), journal.kept_there(0), journal.write(0, "more"), journal.write(0, "end"), journal.write(0, "up"), journal.core_there(0)],
            [0, [1], [], [1, 2], [4], ['end']])
        self.assertEqual(
            [journal.back(0, 2), journal.log_there(0), journal.core_there(0), journal.change(0, 1, "up"), journal.undo(), journal.throw(0, [0]), journal.log_there(0)],
            [[1, 2], ['up', 'set', 'more'], ['set', 'more'], ([], [0]), None, None, ['set', 'more']])
        self.assertEqual(
            [journal.start(["end", "set", "more"]), journal.alike_spots(0), journal.compact(1), journal.join(0, 1), journal.spots(), journal.log_there(0), journal.kept_there(0)],
            [1, [1], [0], None, [0], ['set', 'more', 'set', 'more'], [2, 3]])
        self.assertEqual(
            [len(journal.record()), replayed(Journal(book), journal.record()).core_there(0), journal.undo(), journal.spots()],
            [9, ['set', 'more'], None, [0, 1]])


if __name__ == "__main__":
    unittest.main()
