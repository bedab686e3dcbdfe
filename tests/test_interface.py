"""The names, arguments and methods of the interface."""

import importlib
import inspect
import unittest

FUNCTIONS = {
    "logcores.kinds": {
        "is_table": ["value"], "put_all": ["kinds", "row"], "opposite": ["kinds"], "renamed": ["kinds", "sent"],
        "can_cover": ["kinds"], "can_stop": ["kinds"],
    },
    "logcores.rules": {
        "rule_with": ["rule", "covers", "stops"], "rule_without": ["rule", "covers", "stops"],
        "meet_rule": ["one", "other"], "union_rule": ["one", "other"], "is_within": ["one", "other"],
        "mirrored_rule": ["rule"], "renamed_rule": ["rule", "sent"],
    },
    "logcores.forced": {
        "is_force": ["rule", "value"], "forced_pairs": ["rule"], "force_of": ["rule", "word", "pair"],
        "forced_rule": ["rule"], "settled_within": ["rule"],
    },
    "logcores.logs": {
        "is_log": ["book", "value"], "kinds_of": ["book", "log"], "kind_of": ["book", "log", "block"],
        "log_without": ["book", "log", "places"], "log_of": ["book", "log", "places"], "strikes": ["book", "log"],
        "log_behind": ["book", "log", "strike"], "taken": ["strike"], "after": ["book", "log", "strikes"],
        "by_kinds": ["book"], "with_names": ["book", "sent"], "log_sent": ["book", "log", "sent"],
        "mirrored_strike": ["strike", "size"],
    },
    "logcores.settled": {
        "is_settled": ["rule"], "last_ones": ["rule", "row"], "unsettled": ["rule"],
        "is_unsettled": ["rule", "value"], "unsettled_rows": ["rule", "size"], "fork": ["rule"],
        "is_fork": ["rule", "value"],
    },
    "logcores.cores": {
        "core": ["book", "log"], "kept": ["book", "log"], "is_core": ["book", "log"], "striking": ["book", "log"],
        "is_striking": ["book", "log", "value"], "fewest_strikes": ["book", "log"],
        "fewest_striking": ["book", "log"], "is_fewest_striking": ["book", "log", "value"],
        "reason": ["book", "log", "place"], "is_reason": ["book", "log", "place", "value"],
        "witnesses": ["book", "log", "place"], "sure_places": ["book", "log", "place"],
        "from_behind": ["book", "log"], "from_ahead": ["book", "log"],
    },
    "logcores.alike": {
        "are_alike": ["book", "one", "other"], "road": ["book", "one", "other"],
        "is_road": ["book", "one", "other", "value"], "many_alike": ["book", "log", "size"],
        "repeated": ["book", "log", "times"], "rounds": ["book", "log"], "lead": ["book", "one", "other"],
        "is_lead": ["book", "one", "other", "value"], "led": ["book", "log"], "same_ends": ["book", "one", "other"],
        "parting_end": ["book", "one", "other"],
    },
    "logcores.nets": {
        "mark_of": ["rule", "row"], "net": ["rule"], "follow": ["book", "log"], "longest": ["rule"],
        "longest_row": ["rule"], "heights": ["rule"], "are_heights": ["rule", "value"], "ring": ["rule"],
        "is_ring": ["rule", "value"], "core_rows": ["rule", "size"], "core_logs": ["book", "size"],
        "many_unlike": ["book"], "core_at": ["book", "size", "number"], "core_place": ["book", "log"],
        "growth": ["rule"], "two_turns": ["rule"], "are_two_turns": ["rule", "value"],
    },
    "logcores.futures": {
        "struck_in": ["book", "log", "future"], "left_in": ["book", "log", "future"],
        "least_future": ["book", "log", "place"], "is_future_striking": ["book", "log", "place", "value"],
        "kept_for_ever": ["book", "log"], "why_kept": ["book", "log", "place"],
        "is_why_kept": ["book", "log", "place", "value"], "struck_sets": ["book", "log"],
        "future_for": ["book", "log", "places"], "is_future_for": ["book", "log", "places", "value"],
        "struck_soon": ["book", "log", "size"], "lasting_kinds": ["rule"], "striking_row": ["rule", "kind"],
    },
    "logcores.merges": {
        "merged": ["book", "segments"], "cores_of": ["book", "segments"], "is_merging": ["segments", "value"],
        "reads": ["book", "segments", "merging"], "least_reads": ["book", "segments"],
        "best_merging": ["book", "segments"], "is_best_merging": ["book", "segments", "value"],
        "many_best": ["book", "segments"], "merge_bounds": ["book", "segments"],
        "are_merge_bounds": ["book", "segments", "value"], "struck_where": ["book", "segments"],
        "left_of": ["book", "segments"], "needless": ["book", "segments"], "commute": ["book", "one", "other"],
        "kinds_commute": ["rule", "kind", "late"],
    },
    "logcores.memory": {
        "moments": ["book", "log"], "struck_with": ["book", "log", "place"], "kept_behind": ["book", "log", "number"],
        "most_kept": ["book", "log"], "memory_rows": ["book", "log", "number"], "core_back": ["rows", "size", "many"],
        "memory_peak": ["book", "log", "number"], "without": ["book", "log", "place"],
        "with_entry": ["book", "log", "place", "name"], "woken": ["book", "log", "place"],
        "felled": ["book", "log", "place", "name"], "idle_places": ["book", "log"], "idle_names": ["book", "log"],
        "needed_for": ["book", "log", "place"],
    },
    "logcores.safelots": {
        "is_safe": ["book", "log", "lot"], "safe_lots": ["book", "log"], "many_safe": ["book", "log"],
        "least_with": ["book", "log", "place"], "greatest_within": ["book", "log", "places"],
        "is_greatest_within": ["book", "log", "places", "value"], "why_unsafe": ["book", "log", "lot"],
        "never_alone": ["book", "log"], "throwing_of": ["book", "log", "lot"],
        "is_throwing": ["book", "log", "lot", "value"],
    },
    "logcores.readers": {
        "read_log": ["book", "log", "place", "rest"], "is_right": ["book", "log", "place", "rest"],
        "fewest_left": ["book", "log", "place"], "shortest_rest": ["book", "log", "place"],
        "is_shortest_rest": ["book", "log", "place", "value"], "least_rests": ["book", "log", "place"],
        "always_read": ["book", "log", "place"], "is_left_for_all": ["book", "log", "places", "value"],
        "fewest_for_all": ["book", "log", "places"], "left_for_all": ["book", "log", "places"],
        "stretch_rests": ["book", "log", "places"],
    },
    "logcores.stores": {
        "covering_pairs": ["store"], "stopping_pairs": ["store"], "parting_values": ["store", "word", "pair"],
        "are_parting_values": ["store", "word", "pair", "value"], "fits": ["store", "rule"], "rule_of": ["store"],
        "are_inputs": ["store", "book", "value"], "value_of": ["store", "book", "inputs", "log"],
        "same_always": ["store", "book", "one", "other"], "parting_inputs": ["store", "book", "one", "other"],
        "are_parting": ["store", "book", "one", "other", "value"], "unparted": ["store", "book"],
        "are_unparted": ["store", "book", "value"], "hidden": ["rule"], "twins": ["rule", "many"],
        "are_twins": ["rule", "many", "value"], "free_store": ["book"], "free_size": ["book"],
        "parting_store": ["book", "one", "other"], "is_parting_store": ["book", "one", "other", "value"],
    },
    "logcores.folding": {
        "is_folding": ["rule", "value"], "all_foldings": ["rule"], "coarsest": ["rule"],
        "telling": ["rule", "one", "other"], "is_telling": ["rule", "one", "other", "value"],
        "folded_rule": ["rule", "lists"], "folded_book": ["book", "lists"],
    },
    "logcores.journals": {"replayed": ["journal", "record"]},
    "logcores.scripts": {
        "play": ["journal", "script"], "script_text": ["script"], "read_script": ["text"], "end_of": ["book", "script"],
        "shortened": ["book", "script"],
    },
    "logcores.papers": {
        "rule_text": ["rule"], "read_rule": ["text"], "book_text": ["book"], "read_book": ["text"],
        "strike_text": ["strike"], "read_strike": ["text"], "striking_text": ["strikes"], "read_striking": ["text"],
    },
}
CLASSES = {
    "logcores.kinds": {"Kinds": {"__init__": ["table"], "table": [], "words": [], "put": ["first", "second"],
                                 "__eq__": ["other"]}},
    "logcores.rules": {"Rule": {"__init__": ["kinds", "covers", "stops"], "kinds": [], "covers": [], "stops": [],
                                "__eq__": ["other"]}},
    "logcores.logs": {"Book": {"__init__": ["rule", "names"], "rule": [], "names": [], "__eq__": ["other"]}},
    "logcores.stores": {"Store": {"__init__": ["table", "kinds", "holding"], "table": [], "kinds": [], "holding": [],
                                  "words": [], "put": ["first", "second"], "__eq__": ["other"]}},
    "logcores.journals": {"Journal": {
        "__init__": ["book"], "start": ["log"], "close": ["spot"], "spots": [], "log_there": ["spot"],
        "core_there": ["spot"], "kept_there": ["spot"], "write": ["spot", "name"], "compact": ["spot"],
        "throw": ["spot", "places"], "back": ["spot", "many"], "change": ["spot", "place", "name"],
        "join": ["one", "other"], "alike_spots": ["spot"], "trial": [], "attempt": ["action"], "copy": [], "undo": [],
        "redo": [], "record": []}},
}


def told_parameters(call):
    told = inspect.signature(call).parameters.values()
    return [(one.name, one.kind, one.default) for one in told]


def plain_parameters(names):
    return [(name, inspect.Parameter.POSITIONAL_OR_KEYWORD, inspect.Parameter.empty) for name in names]


class TheInterface(unittest.TestCase):
    def test_functions_stand_in_their_files_with_their_parameters(self):
        for file, functions in FUNCTIONS.items():
            for name, parameters in functions.items():
                call = getattr(importlib.import_module(file), name)
                self.assertTrue(inspect.isfunction(call), name)
                self.assertEqual(call.__module__, file)
                self.assertEqual(told_parameters(call), plain_parameters(parameters), name)

    def test_classes_stand_in_their_files_with_their_own_methods(self):
        for file, classes in CLASSES.items():
            for name, methods in classes.items():
                made = getattr(importlib.import_module(file), name)
                self.assertEqual(made.__module__, file)
                for method, parameters in methods.items():
                    self.assertIn(method, vars(made), name)
                    self.assertEqual(told_parameters(vars(made)[method]), plain_parameters(["self"] + parameters), method)


if __name__ == "__main__":
    unittest.main()
