"""What the document promises over the whole program: what one module tells fits what the others tell."""

import random
import unittest

from logcores import (alike, cores, folding, forced, futures, journals, kinds, logs, memory, merges, nets, papers, readers, rules,
                      safelots, scripts, settled, stores)
from logcores.errors import Boundless
from tests.helper import deep_book, few_kinds, pages_rule, ring_book, short_book, store_book, store_rule, tall_book, wild_rule
from tests.oracle import drawn_rule, logs_of


def drawn_books(number, words="abc", names=4):
    """Books of drawn settled rules, with some names more than there are kinds."""
    draw = random.Random(number)
    found = []
    while len(found) < number:
        rule = drawn_rule(draw, draw.choice(["ab", words, words]))
        if settled.is_settled(rule):
            there = rule.kinds().words()
            found.append(logs.Book(rule, {name: (there + [draw.choice(there) for _ in range(names)])[at] for at, name in enumerate("pqrs"[:names])}))
    return found


def drawn_logs(book, number, longest, shortest=0):
    draw = random.Random(number)
    return [[draw.choice(list(book.names())) for _ in range(draw.randint(shortest, longest))] for _ in range(number)]


def is_bounded(book):
    return nets.longest(book.rule()) is not None


class OneFitsTheOthers(unittest.TestCase):
    def test_cores_kept_places_and_moments(self):
        for book in drawn_books(60):
            for log in drawn_logs(book, 5, 12):
                core, kept = cores.core(book, log), cores.kept(book, log)
                self.assertEqual(logs.log_of(book, log, kept), core)
                self.assertIs(cores.is_core(book, core), True)
                self.assertEqual([place for place, moment in enumerate(memory.moments(book, log)) if moment is None], kept)
                self.assertEqual(memory.kept_behind(book, log, len(log)), kept)
                self.assertEqual([logs.log_of(book, log, memory.kept_behind(book, log, size)) for size in range(len(log) + 1)], cores.from_ahead(book, log))
                self.assertEqual(logs.after(book, log, cores.striking(book, log)), (core, kept))
                rows = memory.memory_rows(book, log, len(log))
                self.assertEqual([memory.core_back(rows, len(log), many) for many in range(len(log) + 1)], cores.from_ahead(book, log)[::-1])
                self.assertIs(alike.is_road(book, log, core, [("out", strike) for strike in cores.striking(book, log)]), True)
                self.assertEqual(nets.follow(book, log), [name for name in book.names() if cores.is_core(book, core + [name])])

    def test_cores_merges_and_segments(self):
        for book in drawn_books(40):
            for log in drawn_logs(book, 4, 12, 3):
                segments = [log[:2], log[2:5], log[5:], []]
                core = cores.core(book, log)
                self.assertEqual(merges.merged(book, segments), core)
                self.assertEqual(merges.merged(book, merges.cores_of(book, segments)), core)
                self.assertIs(merges.is_best_merging(book, segments, merges.best_merging(book, segments)), True)
                left = merges.left_of(book, segments)
                self.assertEqual([name for places, segment in zip(left, segments) for name in logs.log_of(book, segment, places)], core)
                self.assertEqual([log[place] for place in readers.stretch_rests(book, log, [0])], core)

    def test_strikes_that_are_mirrored(self):
        for book in drawn_books(30):
            mirrored = logs.Book(rules.mirrored_rule(book.rule()), book.names())
            for log in drawn_logs(book, 4, 7):
                strikes = logs.strikes(book, log)
                self.assertEqual(sorted(logs.mirrored_strike(strike, len(log)) for strike in strikes), logs.strikes(mirrored, log[::-1]))
                self.assertEqual(cores.core(mirrored, log[::-1]), cores.core(book, log)[::-1])
            self.assertIs(is_bounded(mirrored), is_bounded(book))

    def test_safe_lots_and_rests(self):
        for book in drawn_books(40):
            for log in drawn_logs(book, 3, 7):
                struck = [place for place in range(len(log)) if place not in cores.kept(book, log)]
                self.assertIn(struck, safelots.safe_lots(book, log))
                self.assertEqual(safelots.greatest_within(book, log, struck), struck)
                for lot in safelots.safe_lots(book, log):
                    self.assertIs(alike.are_alike(book, logs.log_without(book, log, lot), log), True)
                    self.assertIs(readers.is_right(book, log, 0, [place for place in range(len(log)) if place not in lot]), True)
                idle = [place for place in memory.idle_places(book, log) if place in struck]
                self.assertEqual(sorted(idle + safelots.never_alone(book, log)), struck)
                self.assertEqual(readers.fewest_left(book, log, 0), readers.fewest_for_all(book, log, [0]))
                readers_of = sorted({0, len(log) // 2, len(log)})
                self.assertIs(readers.is_left_for_all(book, log, readers_of, readers.stretch_rests(book, log, readers_of)), True)
                self.assertLessEqual(readers.fewest_for_all(book, log, readers_of), len(readers.stretch_rests(book, log, readers_of)))

    def test_foldings_keep_what_hangs_on_places(self):
        draw, folded = random.Random(8), 0
        for _ in range(400):
            rule = drawn_rule(draw, draw.choice(["ab", "abc", "abcd"]))
            lists = folding.coarsest(rule)
            if len(lists) == len(rule.kinds().words()) or not settled.is_settled(rule):
                continue
            folded += 1
            book = logs.Book(rule, {kind: kind for kind in rule.kinds().words()})
            other = folding.folded_book(book, lists)
            for log in drawn_logs(book, 3, 7):
                for call in (cores.kept, memory.moments, safelots.safe_lots, lambda book, log: readers.least_rests(book, log, len(log) // 2), logs.strikes):
                    self.assertEqual(call(book, log), call(other, log))
        self.assertGreater(folded, 10)

    def test_stores_and_logs_that_are_alike(self):
        for book in drawn_books(40):
            if is_bounded(book):
                store, inputs = stores.free_store(book)
                self.assertEqual(len(store.words()), stores.free_size(book))
                self.assertEqual(stores.free_size(book) + 1, nets.many_unlike(book))
                self.assertIs(stores.fits(store, book.rule()), True)
                for one, other in zip(drawn_logs(book, 6, 6, 1), drawn_logs(book, 6, 6, 1)[::-1]):
                    same = stores.value_of(store, book, inputs, one) == stores.value_of(store, book, inputs, other)
                    self.assertIs(same, alike.are_alike(book, one, other))
                    self.assertIs(stores.same_always(store, book, one, cores.core(book, one)), True)
            else:
                self.assertIs(nets.is_ring(book.rule(), nets.ring(book.rule())), True)
                self.assertIs(nets.is_ring(book.rule(), stores.twins(book.rule(), 3)[:2]), True)

    def test_numbers_of_cores(self):
        for book in drawn_books(40):
            many = nets.core_logs(book, 3)
            found = [log for log in logs_of(book, 3, 3) if cores.is_core(book, log)]
            self.assertEqual([nets.core_at(book, 3, number) for number in range(many)], found)
            self.assertEqual([nets.core_place(book, log) for log in found], list(range(many)))
            if is_bounded(book):
                size = nets.longest(book.rule())
                self.assertEqual(sum(nets.core_logs(book, at) for at in range(size + 1)), nets.many_unlike(book))
                self.assertEqual((nets.core_logs(book, size) > 0, nets.core_logs(book, size + 1)), (True, 0))
                self.assertEqual(len(nets.longest_row(book.rule())), size)

    def test_futures_and_what_is_kept(self):
        for book in drawn_books(40):
            for log in drawn_logs(book, 3, 6):
                for kind in book.rule().kinds().words():
                    name = [name for name in book.names() if book.names()[name] == kind][0]
                    felled = memory.felled(book, log, len(log), name)
                    self.assertEqual(futures.struck_in(book, log, [kind]), felled)
                if is_bounded(book):
                    soon = futures.struck_soon(book, log, 3)
                    self.assertEqual(set(soon) & set(futures.kept_for_ever(book, log)), set())

    def test_journals_and_cores(self):
        for book in drawn_books(30):
            journal, whole = journals.Journal(book), []
            journal.start([])
            for name in drawn_logs(book, 1, 12, 12)[0]:
                struck = journal.write(0, name)
                whole.append(name)
                moments = memory.moments(book, whole)
                self.assertEqual(struck, [place for place, moment in enumerate(moments) if moment == len(whole)])
                self.assertEqual(journal.core_there(0), cores.core(book, whole))
            record = journal.record()
            self.assertEqual(scripts.end_of(book, record), {0: whole})
            self.assertEqual(scripts.read_script(scripts.script_text(record)), record)
            self.assertEqual(journals.replayed(journals.Journal(book), record).log_there(0), whole)

    def test_texts_of_all(self):
        for book in drawn_books(60):
            self.assertEqual(papers.read_rule(papers.rule_text(book.rule())), book.rule())
            self.assertEqual(papers.read_book(papers.book_text(book)), book)
            for log in drawn_logs(book, 2, 8):
                striking = cores.striking(book, log)
                self.assertEqual(papers.read_striking(papers.striking_text(striking)), striking)


def changed(told):
    """Change all lists and dictionaries in what was told, those in others too."""
    if isinstance(told, tuple):
        for part in told:
            changed(part)
    if isinstance(told, list):
        for part in told:
            changed(part)
        told.append("changed")
    if isinstance(told, dict):
        for part in told.values():
            changed(part)
        told.clear()


class EqualCalls(unittest.TestCase):
    def calls(self):
        """Calls of all functions, each with what makes its arguments anew."""
        log, eight = ["up", "set", "more", "up", "end", "up"], ["up", "set", "up", "end", "end", "up", "more", "set"]
        page = logs.Book(pages_rule(), {"l": "l", "m": "m", "w": "w"})
        last = {(x, y): y for x in "uv" for y in "uv"}
        segments = [["up", "set", "more"], ["up", "up"], ["set", "up", "set"], ["more"]]

        def store():
            return stores.Store(dict(last), few_kinds(), {kind: ["u", "v"] for kind in "abc"})

        one = [(name, lambda: [store_book(), list(log)]) for name in (
            cores.core, cores.kept, cores.is_core, cores.striking, cores.fewest_strikes, cores.from_behind, cores.from_ahead, logs.strikes, logs.kinds_of,
            nets.follow, memory.moments, memory.most_kept, memory.idle_places, memory.idle_names, safelots.safe_lots, safelots.many_safe, safelots.never_alone)]
        one.extend((name, lambda: [wild_rule()]) for name in (
            settled.is_settled, settled.unsettled, settled.fork, forced.forced_pairs, forced.settled_within, folding.coarsest, folding.all_foldings, futures.lasting_kinds,
            papers.rule_text))
        one.extend((name, lambda: [store_rule()]) for name in (
            nets.net, nets.ring, nets.growth, nets.longest, nets.two_turns, stores.hidden, settled.unsettled, nets.heights))
        one.extend((name, lambda: [tall_book().rule()]) for name in (nets.heights, nets.longest_row, nets.net))
        one.extend((name, lambda: [few_kinds()]) for name in (kinds.can_cover, kinds.can_stop, lambda made: made.table(), lambda made: made.words()))
        one.extend((name, lambda: [store_book(), [list(segment) for segment in segments]]) for name in (
            merges.merged, merges.cores_of, merges.best_merging, merges.merge_bounds, merges.struck_where, merges.left_of, merges.needless))
        one.extend((name, lambda: [deep_book(), ["p", "q", "r", "p"]]) for name in (futures.kept_for_ever, futures.struck_sets, cores.kept, alike.led))
        one.extend((name, lambda: [short_book()]) for name in (stores.free_size, nets.many_unlike, papers.book_text))
        one.extend((name, lambda: [store()]) for name in (
            stores.covering_pairs, stores.stopping_pairs, lambda made: made.table(), lambda made: made.holding(), lambda made: made.words()))
        return one + [
            (settled.unsettled_rows, lambda: [wild_rule(), 4]), (settled.last_ones, lambda: [wild_rule(), list("abcabcc")]),
            (forced.force_of, lambda: [wild_rule(), "cover", ("a", "c")]), (cores.witnesses, lambda: [store_book(), list(log), 1]),
            (cores.reason, lambda: [store_book(), list(log), 1]), (alike.road, lambda: [page, list("ml"), list("mlml")]), (alike.rounds, lambda: [short_book(), ["p", "q"]]),
            (alike.lead, lambda: [short_book(), ["p"], ["r", "p"]]), (alike.parting_end, lambda: [page, ["l"], ["m"]]), (futures.least_future, lambda: [short_book(), ["r", "p"], 0]),
            (futures.struck_soon, lambda: [page, list("lml"), 2]), (futures.why_kept, lambda: [deep_book(), ["p", "q"], 1]), (memory.memory_rows, lambda: [store_book(), list(log), 2]),
            (memory.needed_for, lambda: [store_book(), list(log), 1]), (memory.woken, lambda: [store_book(), list(log), 4]), (safelots.least_with, lambda: [store_book(), list(eight), 0]),
            (safelots.why_unsafe, lambda: [store_book(), list(log), [0]]), (safelots.throwing_of, lambda: [store_book(), list(log), [0, 1]]),
            (safelots.greatest_within, lambda: [store_book(), list(log), [0, 1]]), (readers.least_rests, lambda: [page, list("mlml"), 1]), (readers.shortest_rest, lambda: [page, list("mlml"), 1]),
            (readers.left_for_all, lambda: [page, list("mlml"), [0, 1]]), (readers.stretch_rests, lambda: [page, list("mlml"), [0, 2]]), (readers.read_log, lambda: [page, list("mlml"), 1, [2]]),
            (stores.twins, lambda: [store_rule(), 3]), (stores.unparted, lambda: [store(), short_book()]), (stores.parting_inputs, lambda: [store(), short_book(), ["p", "q"], ["q", "p"]]),
            (lambda book: [stores.free_store(book)[0].table(), stores.free_store(book)[1]], lambda: [short_book()]), (folding.telling, lambda: [store_rule(), "s", "z"]),
            (scripts.shortened, lambda: [store_book(), [("start", list(log)), ("throw", 0, [0])]]), (scripts.end_of, lambda: [store_book(), [("start", list(log))]]),
            (scripts.read_script, lambda: ["start up\ntry\n  throw 0 0\nend"]), (papers.read_striking, lambda: ["cover 0 1 2"]), (nets.core_at, lambda: [page, 3, 7]),
            (nets.mark_of, lambda: [store_rule(), ["s", "a"]]), (nets.core_rows, lambda: [pages_rule(), 5]), (alike.many_alike, lambda: [short_book(), ["r"], 3]),
            (kinds.put_all, lambda: [few_kinds(), list("abc")]), (logs.after, lambda: [page, list("mlml"), [("cover", 1, 2, 4)]])]

    def test_results_hang_on_nothing_that_was_done_to_others(self):
        for call, make in self.calls():
            given = make()
            first = repr_of(call(*given))
            self.assertEqual([repr_of(part) for part in given], [repr_of(part) for part in make()], call)
            # Of the same rule or book, of an equal one, and again behind changes of all that was told.
            changed(call(*given))
            self.assertEqual(repr_of(call(*given)), first, call)
            changed(call(*make()))
            self.assertEqual(repr_of(call(*make())), first, call)

    def test_in_whatever_order_they_are_asked(self):
        book, rule = store_book(), store_rule()
        calls = [lambda book, rule: cores.core(book, ["up", "set", "up"]), lambda book, rule: nets.net(rule), lambda book, rule: nets.ring(rule),
                 lambda book, rule: nets.two_turns(rule), lambda book, rule: nets.growth(rule), lambda book, rule: nets.core_rows(rule, 5), lambda book, rule: nets.longest(rule),
                 lambda book, rule: nets.mark_of(rule, ["s", "a", "a"]), lambda book, rule: stores.twins(rule, 2), lambda book, rule: nets.core_logs(book, 3)]
        first = [call(store_book(), store_rule()) for call in calls]
        for number in range(20):
            order = random.Random(number).sample(range(len(calls)), len(calls))
            book, rule = store_book(), store_rule()
            for at in order + order:
                self.assertEqual(calls[at](book, rule), first[at])
                self.assertEqual(list(nets.net(rule)), sorted(nets.net(rule)))

    def test_rings_and_turns_of_any_nets(self):
        for book in drawn_books(40):
            rule = book.rule()
            first = [nets.ring(rule), nets.two_turns(rule), nets.longest_row(rule)]
            again = rules.Rule(rule.kinds(), rule.covers(), rule.stops())
            for log in drawn_logs(book, 5, 9):
                cores.core(logs.Book(again, book.names()), log[::-1])
            self.assertEqual([call(again) for call in (nets.ring, nets.two_turns, nets.longest_row)], first)

    def test_what_is_boundless_is_so_for_all(self):
        book = ring_book()
        for call in (lambda: alike.rounds(book, ["p"]), lambda: alike.led(book, []), lambda: nets.many_unlike(book), lambda: stores.free_store(book),
                     lambda: futures.kept_for_ever(book, [])):
            with self.assertRaises(Boundless) as caught:
                call()
            self.assertIs(caught.exception.value, book)


def repr_of(value):
    """What a value is, the objects of the package by what they tell."""
    if isinstance(value, (list, tuple)):
        return (type(value).__name__, [repr_of(part) for part in value])
    if isinstance(value, dict):
        return ("dict", [(repr_of(key), repr_of(part)) for key, part in value.items()])
    if isinstance(value, kinds.Kinds):
        return repr_of(value.table())
    if isinstance(value, rules.Rule):
        return repr_of([value.kinds(), value.covers(), value.stops()])
    if isinstance(value, logs.Book):
        return repr_of([value.rule(), value.names()])
    if isinstance(value, stores.Store):
        return repr_of([value.table(), value.kinds(), value.holding()])
    return repr(value)


if __name__ == "__main__":
    unittest.main()
