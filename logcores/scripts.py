"""Scripts that are played on journals, and their texts [98] to [100]."""

from logcores.errors import CoreError, InvalidScript, InvalidText
from logcores.forms import is_ascending, is_count, is_tuple_of, is_word, number_in
from logcores.journals import Journal, carry_out, check_journal, fresh_command

# What stands behind the words of commands: what takes all that is left stands last.
FORMS = {
    "start": ("names",), "close": ("count",), "write": ("count", "name"), "compact": ("count",),
    "throw": ("count", "places"), "back": ("count", "count"), "change": ("count", "count", "name"),
    "join": ("count", "count"), "core_there": ("count",), "kept_there": ("count",), "alike_spots": ("count",),
    "undo": (), "redo": (),
}


def _is_script(value):
    """Return whether any object is a script."""
    return isinstance(value, list) and all([_is_command(command) for command in value])


def _is_command(value):
    if is_tuple_of(2, value) and value[0] == "try":
        return _is_script(value[1])
    if not isinstance(value, tuple) or len(value) == 0 or not isinstance(value[0], str) or value[0] not in FORMS:
        return False
    forms = FORMS[value[0]]
    return len(value) == len(forms) + 1 and all([_has_form(form, part) for form, part in zip(forms, value[1:])])


def _has_form(form, value):
    if form == "count":
        return is_count(value)
    if form == "name":
        return is_word(value)
    if not isinstance(value, list):
        return False
    if form == "names":
        return all([is_word(name) for name in value])
    return all([is_count(place) for place in value]) and is_ascending(value)


def _check_script(script):
    if not _is_script(script):
        raise InvalidScript(script)


def play(journal, script):
    """Carry a script out on a journal, and return what is said of each command."""
    check_journal(journal)
    _check_script(script)
    return _played(journal, script)


def _played(journal, script):
    return [_said(journal, command) for command in script]


def _said(journal, command):
    if command[0] == "try":
        with journal.trial():
            return ("tried", _played(journal, command[1]))
    try:
        told = _told(journal, command[0], command[1:])
    except CoreError as error:
        return ("refused", error.__class__.__name__)
    if command[0] == "start":
        return ("start", told)
    return ("done",) if told is None else ("told", told)


def _told(journal, word, given):
    """Return what the method of a word returns."""
    if word == "core_there":
        return journal.core_there(*given)
    if word == "kept_there":
        return journal.kept_there(*given)
    if word == "alike_spots":
        return journal.alike_spots(*given)
    if word == "undo":
        return journal.undo()
    if word == "redo":
        return journal.redo()
    return carry_out(journal, word, given)


def script_text(script):
    """Return the text of a script."""
    _check_script(script)
    return "\n".join(_lines_of(script, ""))


def _lines_of(script, ahead):
    """Return the lines of a script, each behind some blanks."""
    lines = []
    for command in script:
        if command[0] == "try":
            lines.extend([f"{ahead}try", *_lines_of(command[1], f"{ahead}  "), f"{ahead}end"])
        else:
            lines.append(ahead + " ".join(_pieces_of(command)))
    return lines


def _pieces_of(command):
    pieces = []
    for part in command:
        if isinstance(part, list):
            pieces.extend([str(one) for one in part])
        else:
            pieces.append(str(part))
    return pieces


def read_script(text):
    """Return the script of which a text is the text."""
    script = _script_in(text) if isinstance(text, str) else None
    # What is read is looked at as a whole: it has to be a script, and of just this text.
    if not _is_script(script) or script_text(script) != text:
        raise InvalidText(text)
    return script


def _script_in(text):
    """Return what the lines of a text tell as a script, None if they tell nothing."""
    lines = [] if text == "" else text.split("\n")
    waiting = [[]]
    for line in lines:
        plain = line.lstrip(" ")
        if plain == "try":
            waiting.append([])
        elif plain == "end" and len(waiting) > 1:
            inner = waiting.pop()
            waiting[-1].append(("try", inner))
        else:
            waiting[-1].append(_command_in(plain))
    return waiting[0] if len(waiting) == 1 else None


def _command_in(line):
    """Return what a line tells as a command, None if it tells nothing."""
    word, *pieces = line.split(" ")
    found = [word]
    for form in FORMS.get(word, ()):
        if form == "names":
            found.append(pieces)
            pieces = []
        elif form == "places":
            found.append([number_in(piece) for piece in pieces])
            pieces = []
        elif pieces == []:
            return None
        else:
            found.append(number_in(pieces[0]) if form == "count" else pieces[0])
            pieces = pieces[1:]
    return tuple(found) if pieces == [] else None


def end_of(book, script):
    """Return the logs at the spots at the end of a script that is played on a new journal of a book."""
    journal = Journal(book)
    _check_script(script)
    return _end_on(journal, script)


def _end_on(journal, script):
    """Return the logs at the spots at the end of a script on a journal, which is left as it was."""
    with journal.trial():
        _played(journal, script)
        return {spot: journal.log_there(spot) for spot in journal.spots()}


def shortened(book, script):
    """Return a script without the commands that are not needed for its end, the last ones left out first."""
    journal = Journal(book)
    _check_script(script)
    end = _end_on(journal, script)
    left = _fresh(script)
    for at in range(len(script) - 1, -1, -1):
        less = left[:at] + left[at + 1:]
        if _end_on(journal, less) == end:
            left = less
    return left


def _fresh(script):
    """Return a script with new lists."""
    return [("try", _fresh(command[1])) if command[0] == "try" else fresh_command(command) for command in script]
