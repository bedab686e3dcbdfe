"""Logs in segments, and in which order their cores are merged [56] to [61]."""

from logcores.alike import check_settled_two, have_same_core
from logcores.cores import core_of
from logcores.errors import InvalidLogs, InvalidMerging
from logcores.forms import is_ascending, is_count, is_list_of, is_tuple_of
from logcores.kinds import check_kind
from logcores.logs import check_book, picked, row_of
from logcores.rows import core_places
from logcores.rules import check_rule
from logcores.settled import check_settled


def _check_segments(book, segments):
    check_book(book)
    names = book.names()
    if not _is_full_list(segments) or not all([is_list_of(names, segment) for segment in segments]):
        raise InvalidLogs(segments)


def _is_full_list(value):
    return isinstance(value, list) and len(value) > 0


def _check_all(book, segments):
    _check_segments(book, segments)
    check_settled(book.rule(), book)


def _whole(segments):
    return [name for segment in segments for name in segment]


def merged(book, segments):
    """Return the core of segments put together."""
    _check_all(book, segments)
    return core_of(book, _whole(segments))


def cores_of(book, segments):
    """Return the list of the cores of segments."""
    _check_all(book, segments)
    return [core_of(book, segment) for segment in segments]


def is_merging(segments, value):
    """Return whether any object is a merging of so many segments as a list has."""
    if not _is_full_list(segments) or not all([isinstance(segment, list) for segment in segments]):
        raise InvalidLogs(segments)
    return _merges(len(segments), value)


def _merges(many, value):
    """Return whether any object is a merging of so many segments."""
    if not isinstance(value, list) or len(value) != many - 1:
        return False
    if not all([_is_stretch(many, pair) for pair in value]) or not is_ascending(value):
        return False
    return not any([_overlap(one, other) for one in value for other in value])


def _is_stretch(many, value):
    """Return whether any object is a stretch of two at least of so many segments."""
    if not is_tuple_of(2, value) or not is_count(value[0]) or not is_count(value[1]):
        return False
    return value[0] + 2 <= value[1] <= many


def _overlap(one, other):
    return one[0] < other[0] < one[1] < other[1]


def reads(book, segments, merging):
    """Return how many entries all tuples of a merging read together."""
    _check_segments(book, segments)
    if not _merges(len(segments), merging):
        raise InvalidMerging(merging)
    check_settled(book.rule(), book)
    return _reads_of(_part_sizes(book, segments), merging)


def _reads_of(sizes, merging):
    found = 0
    for first, end in merging:
        # The first part is the longest one that is merged already, or a single segment.
        cut = max([late for early, late in merging if early == first and late < end], default=first + 1)
        found += sizes[(first, cut)] + sizes[(cut, end)]
    return found


def _part_sizes(book, segments):
    """Return the number of entries of each part: of a single segment as it is, or of the core of several."""
    sizes = {}
    for first in range(len(segments)):
        now = []
        for end in range(first + 1, len(segments) + 1):
            now = core_of(book, now + segments[end - 1])
            sizes[(first, end)] = len(now) if end > first + 1 else len(segments[first])
    return sizes


def _stretches(many):
    """Return the list of the stretches of two segments at least, the shorter ones first."""
    return [(first, first + size) for size in range(2, many + 1) for first in range(many - size + 1)]


def _sums(sizes, found, first, end):
    """Return, for each cut of a stretch, the numbers found for both parts and what they have, together."""
    sums = {}
    for cut in range(first + 1, end):
        numbers = found.get((first, cut), 0) + found.get((cut, end), 0)
        sums[cut] = numbers + sizes[(first, cut)] + sizes[(cut, end)]
    return sums


def _least_of(sizes, many):
    """Return the least that is read to merge each stretch, the shorter stretches first."""
    found = {}
    for first, end in _stretches(many):
        found[(first, end)] = min(list(_sums(sizes, found, first, end).values()))
    return found


def _best_cuts(sizes, found, first, end):
    return [cut for cut, number in _sums(sizes, found, first, end).items() if number == found[(first, end)]]


def least_reads(book, segments):
    """Return the least that a merging reads."""
    _check_all(book, segments)
    return _least_reads_of(_part_sizes(book, segments), len(segments))


def _least_reads_of(sizes, many):
    return _least_of(sizes, many).get((0, many), 0)


def best_merging(book, segments):
    """Return a merging that reads as little as can be."""
    _check_all(book, segments)
    sizes = _part_sizes(book, segments)
    found = _least_of(sizes, len(segments))
    merging = []
    waiting = [(0, len(segments))]
    while waiting:
        first, end = waiting.pop()
        if end - first > 1:
            cut = _best_cuts(sizes, found, first, end)[0]
            merging.append((first, end))
            waiting.extend([(first, cut), (cut, end)])
    return sorted(merging)


def is_best_merging(book, segments, value):
    """Return whether any object is a merging that reads as little as can be."""
    _check_all(book, segments)
    many = len(segments)
    if not _merges(many, value):
        return False
    sizes = _part_sizes(book, segments)
    return _reads_of(sizes, value) == _least_reads_of(sizes, many)


def many_best(book, segments):
    """Return how many mergings read as little as can be."""
    _check_all(book, segments)
    many = len(segments)
    sizes = _part_sizes(book, segments)
    found = _least_of(sizes, many)
    ways = {(first, first + 1): 1 for first in range(many)}
    for first, end in _stretches(many):
        cuts = _best_cuts(sizes, found, first, end)
        ways[(first, end)] = sum([ways[(first, cut)] * ways[(cut, end)] for cut in cuts])
    return ways[(0, many)]


def merge_bounds(book, segments):
    """Return the greatest merge bounds, keys ascending."""
    _check_all(book, segments)
    found = _least_of(_part_sizes(book, segments), len(segments))
    return {pair: found[pair] for pair in sorted(found)}


def are_merge_bounds(book, segments, value):
    """Return whether any object is merge bounds."""
    _check_all(book, segments)
    many = len(segments)
    pairs = _stretches(many)
    if not isinstance(value, dict) or len(value) != len(pairs):
        return False
    # To Python a key with True in it is the one with 1.
    if not all([_is_stretch(many, pair) and is_count(value[pair]) for pair in value]):
        return False
    sizes = _part_sizes(book, segments)
    return all([value[(first, end)] <= min(list(_sums(sizes, value, first, end).values())) for first, end in pairs])


def _walk(book, segments):
    """Return, for each segment, the kept entries of the whole up to its end, as (segment, place in it)."""
    tables = book.rule().tables
    rows = [row_of(book, segment) for segment in segments]
    kept = []
    found = []
    for at, row in enumerate(rows):
        there = kept + [(at, place) for place in range(len(row))]
        kept = picked(there, core_places(tables, [rows[one][place] for one, place in there]))
        found.append(kept)
    return found


def struck_where(book, segments):
    """Return, for each segment, the ascending list of the entries that it strikes, its own ones too."""
    _check_all(book, segments)
    walk = _walk(book, segments)
    found = []
    ahead = []
    for at, kept in enumerate(walk):
        there = ahead + [(at, place) for place in range(len(segments[at]))]
        found.append([entry for entry in there if entry not in kept])
        ahead = kept
    return found


def left_of(book, segments):
    """Return, for each segment, the ascending list of the places of its entries that are kept in the whole."""
    _check_all(book, segments)
    kept = _walk(book, segments)[-1]
    return [[place for one, place in kept if one == at] for at in range(len(segments))]


def needless(book, segments):
    """Return the ascending list of the segments without which, each by itself, the rest is alike with the whole."""
    _check_all(book, segments)
    whole = _whole(segments)
    return [at for at in range(len(segments))
            if have_same_core(book, _whole(segments[:at] + segments[at + 1:]), whole)]


def commute(book, one, other):
    """Return whether two logs put together in either order are alike."""
    check_settled_two(book, one, other)
    return have_same_core(book, one + other, other + one)


def kinds_commute(rule, kind, late):
    """Return whether all logs that make one kind commute with all that make another one."""
    check_rule(rule)
    check_kind(rule.kinds(), kind)
    check_kind(rule.kinds(), late)
    check_settled(rule, rule)
    # Two single entries of unlike names commute only if one strikes the other from both sides;
    # then any blocks of these kinds do likewise.
    covers = rule.covers()
    stops = rule.stops()
    if (kind, late) in covers and (late, kind) in stops:
        return True
    return (kind, late) in stops and (late, kind) in covers
