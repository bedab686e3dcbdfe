"""What the document says of strikes, in its own plain words and slowly, to hold the program against."""

import itertools

from logcores.kinds import Kinds, can_cover, can_stop
from logcores.rules import Rule

# What core_of has found out, by the numbers of the rules.
KNOWN = {}


def parts_of(items):
    """All ascending lists of some of the items, the shortest first."""
    return [list(part) for size in range(len(items) + 1) for part in itertools.combinations(items, size)]


def rows(kinds, longest):
    """All rows of up to so many entries, the empty one first, those of one size ascending."""
    return [list(row) for size in range(longest + 1) for row in itertools.product(kinds.words(), repeat=size)]


def made_by(kinds, row):
    made = row[0]
    for kind in row[1:]:
        made = kinds.put(made, kind)
    return made


def strikes_on(rule, row):
    found = []
    for first, cut, end in itertools.combinations(range(len(row) + 1), 3):
        pair = (made_by(rule.kinds(), row[first:cut]), made_by(rule.kinds(), row[cut:end]))
        if pair in rule.covers():
            found.append(("cover", first, cut, end))
        if pair in rule.stops():
            found.append(("stop", first, cut, end))
    return sorted(found)


def out_of(strike):
    word, first, cut, end = strike
    return range(first, cut) if word == "cover" else range(cut, end)


def left_behind(row, strike):
    return [entry for at, entry in enumerate(row) if at not in out_of(strike)]


def led_to(rule, row, places=None):
    """The set of all tuples of places to which strikes lead, some or none."""
    found, waiting = set(), [tuple(range(len(row))) if places is None else tuple(places)]
    while waiting:
        now = waiting.pop()
        if now not in found:
            found.add(now)
            waiting.extend(tuple(left_behind(now, strike)) for strike in strikes_on(rule, [row[at] for at in now]))
    return found


def ends_of(rule, row):
    found = sorted(list(places) for places in led_to(rule, row))
    return [places for places in found if strikes_on(rule, [row[at] for at in places]) == []]


def settles(rule):
    return all(len(ends_of(rule, row)) == 1 for row in rows(rule.kinds(), 5) if row)


def core_of(rule, row):
    """The places of the core, whatever order the strikes are made in: here always the last one."""
    # The rule is kept beside what is known of it, so that no other one can come to have its number.
    known = KNOWN.setdefault(id(rule), (rule, {}))[1]
    if tuple(row) not in known:
        places = list(range(len(row)))
        while found := strikes_on(rule, [row[at] for at in places]):
            places = left_behind(places, found[-1])
        known[tuple(row)] = places
    return list(known[tuple(row)])


def core_names(book, log):
    """The core of a log, by its names."""
    return [log[place] for place in core_of(book.rule(), [book.names()[name] for name in log])]


def logs_of(book, longest, shortest=0):
    """All logs of a book of up to so many entries, those of one size ascending."""
    return [list(log) for size in range(shortest, longest + 1) for log in itertools.product(book.names(), repeat=size)]


def forces_on(rule, row):
    found = led_to(rule, row)
    forces = []
    for first, second in itertools.combinations(range(len(row)), 2):
        if (first, second) in found and (second,) in found:
            forces.append(("cover", row, first, second))
        if (first, second) in found and (first,) in found:
            forces.append(("stop", row, first, second))
    return forces


class Reading:
    """A rule that is asked of all its short rows, slowly but for this: the strikes of each row are looked for once."""

    def __init__(self, rule):
        self.rule, self.strikes, self.led = rule, {}, {}

    def led_to(self, row):
        """The set of all tuples of places to which strikes lead, some or none."""
        row = tuple(row)
        if row not in self.led:
            found, waiting = set(), [tuple(range(len(row)))]
            while waiting:
                now = waiting.pop()
                if now not in found:
                    found.add(now)
                    waiting.extend(tuple(left_behind(now, strike)) for strike in self.strikes_on([row[at] for at in now]))
            self.led[row] = found
        return self.led[row]

    def strikes_on(self, row):
        if tuple(row) not in self.strikes:
            self.strikes[tuple(row)] = strikes_on(self.rule, row)
        return self.strikes[tuple(row)]

    def ends_of(self, row):
        return sorted(list(places) for places in self.led_to(row) if not self.strikes_on([row[at] for at in places]))

    def split_rows(self, size):
        """The rows of so many entries that have several last ones."""
        return [row for row in rows(self.rule.kinds(), size) if len(row) == size and len(self.ends_of(row)) > 1]

    def forced(self, longest=5):
        """The pairs forced to cover that are no covers, and those forced to stop that are no stops."""
        found = {"cover": set(), "stop": set()}
        for row in rows(self.rule.kinds(), longest):
            led = self.led_to(row) if row else set()
            for first, second in itertools.combinations(range(len(row)), 2):
                if (first, second) in led:
                    for word, alone in (("cover", second), ("stop", first)):
                        if (alone,) in led:
                            found[word].add((row[first], row[second]))
        return sorted(found["cover"] - set(self.rule.covers())), sorted(found["stop"] - set(self.rule.stops()))


def all_tables(words):
    """All tables of some kinds in which three put together make one kind however they are bracketed."""
    pairs = list(itertools.product(words, repeat=2))
    for made in itertools.product(words, repeat=len(pairs)):
        table = dict(zip(pairs, made))
        if all(table[table[a, b], c] == table[a, table[b, c]] for a in words for b in words for c in words):
            yield table


def all_rules(words):
    """All rules of some kinds."""
    for table in all_tables(words):
        kinds = Kinds(table)
        for covers in parts_of(can_cover(kinds)):
            for stops in parts_of(can_stop(kinds)):
                yield Rule(kinds, covers, stops)


def drawn_table(draw, words):
    """A drawn table: what some ways to send a few numbers to each other make, one behind the other."""
    while True:
        size = draw.choice([2, 3, 4])
        made = {tuple(draw.randrange(size) for _ in range(size)) for _ in range(draw.choice([1, 2, 2, 3]))}
        while len(made) <= len(words):
            more = made | {tuple(late[at] for at in early) for early in made for late in made}
            if more == made:
                break
            made = more
        if len(made) == len(words):
            of = dict(zip(draw.sample(sorted(made), len(made)), words))
            table = {(of[early], of[late]): of[tuple(late[at] for at in early)] for early in of for late in of}
            return table if draw.random() < 0.7 else {(second, first): table[first, second] for first, second in table}


def drawn_rule(draw, words):
    """A drawn rule of some kinds."""
    kinds = Kinds(drawn_table(draw, words))
    covering, stopping = draw.choice([0.1, 0.3, 0.5, 0.8, 1]), draw.choice([0, 0, 0.1, 0.3, 0.5])
    return Rule(kinds, [pair for pair in can_cover(kinds) if draw.random() < covering],
                [pair for pair in can_stop(kinds) if draw.random() < stopping])
