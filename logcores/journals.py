"""Journals: logs at spots that are changed by commands, which can be taken back [89] to [97]."""

from logcores.cores import core_of, kept_of
from logcores.errors import InvalidCount, InvalidJournal, InvalidLog, InvalidName, InvalidPlaces, InvalidRecord
from logcores.errors import InvalidSpot, NothingToRedo, NothingToUndo, Refused
from logcores.forms import are_places, is_count, is_list_of, is_place
from logcores.logs import check_book, is_name, picked
from logcores.settled import check_settled

# How many things stand behind the words of a record.
COMMANDS = {"start": 1, "close": 1, "write": 2, "compact": 1, "throw": 2, "back": 2, "change": 3, "join": 2}


class Trial:
    """A block at the end of which a journal is again as it was when the block was entered."""

    def __init__(self, journal):
        self.journal = journal
        self.before = None

    def __enter__(self):
        self.before = self.journal.held
        return self.journal

    def __exit__(self, kind, value, trace):
        journal = self.journal
        journal.held = self.before


class Journal:
    """A book of a settled rule, and spots with logs of it.

    All that changes stands in `held`: what is there now, the commands that
    were made, each with what was there ahead of it, and those that were taken
    back, each with what was there behind it. What is there is the count that
    comes next, and for each spot the log there with its kept places. None of
    this is ever changed, but another one is put in its place: so blocks and
    copies need only keep it.
    """

    def __init__(self, book):
        check_book(book)
        check_settled(book.rule(), book)
        self._book = book
        self.held = ((0, {}), (), ())

    def start(self, log):
        """Put a log at a new spot, and return the spot."""
        if not is_list_of(self._book.names(), log):
            raise InvalidLog(log)
        spot, there = self.held[0]
        self._make(("start", list(log)), spot + 1, {**there, spot: self._with_kept(list(log))})
        return spot

    def close(self, spot):
        """Take a spot away."""
        self._check_spot(spot)
        self._make(("close", spot), self._next(), _less(self._there(), spot))

    def spots(self):
        """Return the ascending list of the spots."""
        return sorted(self._there())

    def log_there(self, spot):
        """Return the log at a spot."""
        return list(self._log_and_kept(spot)[0])

    def core_there(self, spot):
        """Return the core of the log at a spot."""
        log, kept = self._log_and_kept(spot)
        return picked(log, kept)

    def kept_there(self, spot):
        """Return the ascending list of the places of the kept entries of the log at a spot."""
        return list(self._log_and_kept(spot)[1])

    def write(self, spot, name):
        """Put an entry behind a log, and return the places of the entries that this strikes, itself perhaps, too."""
        log, kept = self._log_and_kept(spot)
        self._check_name(name)
        left = self._put(("write", spot, name), spot, log + [name])
        return _first_alone([*kept, len(log)], left)

    def compact(self, spot):
        """Put its core in the place of a log, and return the places of the entries that are thrown away."""
        log, kept = self._log_and_kept(spot)
        struck = _first_alone(list(range(len(log))), kept)
        if struck == []:
            raise Refused(spot)
        self._put(("compact", spot), spot, picked(log, kept))
        return struck

    def throw(self, spot, places):
        """Throw some struck entries away without which a log is alike."""
        log, kept = self._log_and_kept(spot)
        if not are_places(len(log), places) or places == [] or _first_alone(places, kept) != places:
            raise InvalidPlaces(places)
        left = [name for place, name in enumerate(log) if place not in places]
        if core_of(self._book, left) != picked(log, kept):
            raise Refused(places)
        self._put(("throw", spot, list(places)), spot, left)

    def back(self, spot, many):
        """Take the last entries away, and return the places of the entries that are kept by this."""
        log, kept = self._log_and_kept(spot)
        if not is_count(many) or not 1 <= many <= len(log):
            raise InvalidCount(many)
        return _first_alone(self._put(("back", spot, many), spot, log[:len(log) - many]), kept)

    def change(self, spot, place, name):
        """Put a name in the place of an entry, and return the places of others struck, and kept, by this."""
        log, kept = self._log_and_kept(spot)
        if not is_place(len(log), place):
            raise InvalidCount(place)
        self._check_name(name)
        left = self._put(("change", spot, place, name), spot, log[:place] + [name] + log[place + 1:])
        return (_first_alone(kept, [place, *left]), _first_alone(left, [place, *kept]))

    def join(self, one, other):
        """Put the log at one spot behind that at another one, and take the spot away."""
        log = self._log_and_kept(one)[0]
        more = self._log_and_kept(other)[0]
        if one == other:
            raise InvalidSpot(other)
        there = {**_less(self._there(), other), one: self._with_kept(log + more)}
        self._make(("join", one, other), self._next(), there)

    def alike_spots(self, spot):
        """Return the ascending list of the other spots whose logs are alike with that at a spot."""
        core = self.core_there(spot)
        return [other for other in self.spots() if other != spot and self.core_there(other) == core]

    def trial(self):
        """Return a block at the end of which the journal is as it was when the block was entered."""
        return Trial(self)

    def attempt(self, action):
        """Call a function with the journal in a block, and return what it returns."""
        with self.trial() as journal:
            return action(journal)

    def copy(self):
        """Return an independent journal that is the same in all that it tells."""
        made = Journal(self._book)
        made.held = self.held
        return made

    def undo(self):
        """Take the last command back."""
        now, made, gone = self.held
        if made == ():
            raise NothingToUndo()
        command, before = made[-1]
        self.held = (before, made[:-1], ((command, now), *gone))

    def redo(self):
        """Make the command that was taken back last again."""
        now, made, gone = self.held
        if gone == ():
            raise NothingToRedo()
        command, later = gone[0]
        self.held = (later, (*made, (command, now)), gone[1:])

    def record(self):
        """Return the list of the commands that are not taken back, the eldest first."""
        return [fresh_command(command) for command, _ in self.held[1]]

    def _next(self):
        return self.held[0][0]

    def _there(self):
        return self.held[0][1]

    def _check_spot(self, spot):
        # To Python True is the key 1.
        if not is_count(spot) or spot not in self._there():
            raise InvalidSpot(spot)

    def _log_and_kept(self, spot):
        self._check_spot(spot)
        return self._there()[spot]

    def _with_kept(self, log):
        return (log, kept_of(self._book, log))

    def _check_name(self, name):
        if not is_name(self._book, name):
            raise InvalidName(name)

    def _put(self, command, spot, log):
        """Make a command that puts a log at a spot, and return its kept places."""
        made = self._with_kept(log)
        self._make(command, self._next(), {**self._there(), spot: made})
        return made[1]

    def _make(self, command, number, there):
        now, made, _ = self.held
        self.held = ((number, there), (*made, (command, now)), ())


def _less(there, spot):
    return {other: there[other] for other in there if other != spot}


def _first_alone(one, other):
    return [place for place in one if place not in other]


def fresh_command(command):
    """Return a command with new lists."""
    return tuple([list(part) if isinstance(part, list) else part for part in command])


def check_journal(journal):
    """Raise InvalidJournal unless any object is a journal."""
    if not isinstance(journal, Journal):
        raise InvalidJournal(journal)


def carry_out(journal, word, given):
    """Call the method of the word of a command with what stands behind it, and return what that returns."""
    if word == "start":
        return journal.start(*given)
    if word == "close":
        return journal.close(*given)
    if word == "write":
        return journal.write(*given)
    if word == "compact":
        return journal.compact(*given)
    if word == "throw":
        return journal.throw(*given)
    if word == "back":
        return journal.back(*given)
    if word == "change":
        return journal.change(*given)
    return journal.join(*given)


def replayed(journal, record):
    """Return a copy of a journal on which the commands of a record have been made."""
    check_journal(journal)
    if not isinstance(record, list) or not all([_is_command(command) for command in record]):
        raise InvalidRecord(record)
    made = journal.copy()
    for command in record:
        carry_out(made, command[0], command[1:])
    return made


def _is_command(value):
    if not isinstance(value, tuple) or len(value) == 0 or not isinstance(value[0], str):
        return False
    return value[0] in COMMANDS and len(value) == COMMANDS[value[0]] + 1
