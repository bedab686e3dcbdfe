"""Texts of rules, of books and of strikes [101], [102]."""

from logcores.errors import CoreError, InvalidRoad, InvalidStrike, InvalidText
from logcores.forms import are_strikes, is_strike, number_in
from logcores.kinds import Kinds
from logcores.logs import Book, check_book
from logcores.rules import Rule, check_rule


def rule_text(rule):
    """Return the text of a rule."""
    check_rule(rule)
    return "\n".join(_lines_of(rule))


def _lines_of(rule):
    made = [f"{first} {late} = {kind}" for (first, late), kind in rule.kinds().table().items()]
    return made + ["covers"] + _pair_lines(rule.covers()) + ["stops"] + _pair_lines(rule.stops())


def _pair_lines(pairs):
    return [f"{first} {late}" for first, late in pairs]


def read_rule(text):
    """Return the rule of which a text is the text."""
    parts = _parts_of(text, ("covers", "stops"))
    rule = None if parts is None else _rule_in(parts)
    if rule is None or rule_text(rule) != text:
        raise InvalidText(text)
    return rule


def _parts_of(text, heads):
    """Return the lists of the pieces of the lines ahead of, between and behind some lines, None if one is missing."""
    if not isinstance(text, str):
        return None
    left = text.split("\n")
    parts = []
    for head in heads:
        if head not in left:
            return None
        at = left.index(head)
        parts.append([line.split(" ") for line in left[:at]])
        left = left[at + 1:]
    return [*parts, [line.split(" ") for line in left]]


def _rule_in(parts):
    """Return the rule that the parts of a text tell, None if they tell none."""
    made, covers, stops = parts[:3]
    if not all([len(pieces) == 4 for pieces in made]) or not all([len(pieces) == 2 for pieces in covers + stops]):
        return None
    table = {(pieces[0], pieces[1]): pieces[3] for pieces in made}
    try:
        return Rule(Kinds(table), [tuple(pieces) for pieces in covers], [tuple(pieces) for pieces in stops])
    except CoreError:
        return None


def book_text(book):
    """Return the text of a book."""
    check_book(book)
    return "\n".join(_lines_of(book.rule()) + ["names"] + [f"{name} {kind}" for name, kind in book.names().items()])


def read_book(text):
    """Return the book of which a text is the text."""
    parts = _parts_of(text, ("covers", "stops", "names"))
    book = None if parts is None else _book_in(parts)
    if book is None or book_text(book) != text:
        raise InvalidText(text)
    return book


def _book_in(parts):
    """Return the book that the parts of a text tell, None if they tell none."""
    rule = _rule_in(parts)
    if rule is None or not all([len(pieces) == 2 for pieces in parts[3]]):
        return None
    try:
        return Book(rule, {pieces[0]: pieces[1] for pieces in parts[3]})
    except CoreError:
        return None


def strike_text(strike):
    """Return the line of a strike."""
    if not is_strike(strike):
        raise InvalidStrike(strike)
    return _line_of(strike)


def _line_of(strike):
    word, first, cut, end = strike
    return f"{word} {first} {cut} {end}"


def read_strike(text):
    """Return the strike of which a text is the line."""
    strike = _strike_in(text) if isinstance(text, str) else None
    if not is_strike(strike) or _line_of(strike) != text:
        raise InvalidText(text)
    return strike


def _strike_in(line):
    """Return what a line tells as a strike, which has to be looked at still."""
    word, *pieces = line.split(" ")
    return (word, *[number_in(piece) for piece in pieces])


def striking_text(strikes):
    """Return the lines of a list of strikes."""
    if not are_strikes(strikes):
        raise InvalidRoad(strikes)
    return "\n".join([_line_of(strike) for strike in strikes])


def read_striking(text):
    """Return the list of the strikes of whose lines a text is made."""
    if not isinstance(text, str):
        raise InvalidText(text)
    strikes = [] if text == "" else [_strike_in(line) for line in text.split("\n")]
    if not are_strikes(strikes) or striking_text(strikes) != text:
        raise InvalidText(text)
    return strikes
