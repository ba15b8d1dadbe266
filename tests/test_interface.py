"""The names of the interface: where they are defined, and which parameters they take."""

import importlib
import inspect
import unittest

from tests.helpers import FoldCase
from unseenfolds.errors import BadKind
from unseenfolds.nets import Net
from unseenfolds.plans import Plan

FUNCTIONS = {
    "kinds": [
        "kind_named(name)", "plain_value(kind, word)", "merged_value(kind, left, right)", "alike(kind, left, right)",
        "rule_words(rule)", "broken_rule(kind, other)", "under(kind, other)", "repeated_letter(word)",
    ],
    "witnesses": ["witness(kind, left, right)", "read_fold(table, reading, word)"],
    "strands": [
        "is_strand(thing)", "members(strand)", "last_member(strand)", "member_at(strand, place, /)",
        "place_in(strand, index, /)", "strand_turned(strand)", "strand_each(strand, k, i)",
        "strand_cut(strand, *, begin=0, end=None)",
    ],
    "strandrows": [
        "strand_row(strands)", "row_size(row)", "row_word(row)", "row_index(row, place, /)",
        "row_places(row, index, /)", "row_turned(row)", "row_each(row, k, i)", "row_cut(row, *, begin=0, end=None)",
    ],
    "feedtexts": ["tokens(text)", "read_parts(text)", "write_parts(parts)"],
    "lines": ["numbers_of(feed)", "strand_lines(feed, length)"],
    "cells": [
        "together(*feeds)", "base_of(*feeds)", "told_of(*feeds)", "checked_told(*feeds)", "ends_at(length, *feeds)",
        "cells_at(length, *feeds)", "holders(row, index, /)", "places_of(feed, length, index)",
    ],
    "copies": [
        "copies_of(feed, length, index)", "counts_at(feed, length)", "copy_numbers(feed, length)", "lost(feed)",
        "doubled(feed)", "extremes(feed)", "rearranges(feed)",
    ],
    "verdicts": [
        "alike_at(kind, p, q, length)", "parted(kind, p, q)", "alike_forever(kind, p, q)",
        "differing(kind, p, q, *, below)",
    ],
    "leastkinds": ["kinds_alike(p, q)", "widest_kinds(p, q)"],
    "nets": ["through(net, width, letters)"],
    "nettexts": ["write_net(net)", "read_net(text)"],
    "unders": [
        "nodes_under(net, node)", "merges_under(net, node)", "letters_under(net, node)", "shared_node(net, node)",
        "is_tree(net, node)",
    ],
    "packing": ["packed(net, kind)"],
    "folds": [
        "ceil_log2(k)", "floor_log2(k)", "fold_letters(kind, goal)", "least_merges(kind, goal)",
        "least_height(kind, goal)", "halves_over(net, nodes)", "chain_over(net, nodes)", "halves(width, letters)",
        "chain(width, letters)", "fold_net(kind, goal, width)", "row_net(width, row, *, chained=False)",
        "feed_net(feed, length, *, chained=False)",
    ],
    "goals": ["standing_nodes(net, loss)", "lost_top(net, loss)", "goal_letters(kind, goal)"],
    "spans": ["span(kind, goal, word)", "is_useful(kind, goal, word)"],
    "ways": ["distances(spans, end)", "distances_back(spans, end)", "reached(spans, end)"],
    "covers": [
        "cover_distances(spans, end)", "cover_distances_back(spans, end)", "uncovered(spans, end)",
        "cover_points(spans, end)",
    ],
    "lacking": [f"{name}(net, kind, goal, *, loss=())" for name in ("mendable", "missing", "wants", "want_table")],
    "settling": [f"{name}(net, kind, goal, *, loss=())" for name in ("settled", "unsettled")],
    "blows": ["is_blow(net, kind, goal, nodes, *, loss=())"],
    "flows": ["disjoint_covers(spans, end)"],
    "strengths": ["strength_of(net, kind, goal, *, loss=())"],
    "topways": ["ways_up(net)", "top_way(net)", "copied_net(net, count)"],
    "plans": ["plan_base(plan)", "plan_told(plan)", "class_length(plan, length)"],
    "costs": ["results_net(plan, length)"] + [f"{name}(plan, length, *, chained=False, top_chained=False)"
                                              for name in ("plan_net", "costs")],
    "losses": [
        "unnoticed(kind, plan, number, length)", "unnoticed_again(kind, plan, number, length)",
        "noticed(kind, plan, number)", "noticed_again(kind, plan, number)",
    ],
    "tolerances": ["tolerance(kind, plan, length)", "losing(kind, plan, length)", "least_tolerance(kind, plan)"],
    "arrivals": [
        "parting_runs(kind, plan, length)", "any_order(kind, plan, length)", "order_matters(kind, plan)",
        "any_order_lost(kind, plan, length, lacks)", "any_order_again(kind, plan, length)",
    ],
    "spreads": ["spread_plan(kind, k, lacks)", "least_letters(kind, word, lacks)"],
    "scans": [
        "prefix_nodes(kind, net)", "is_scan(kind, net)", "scan_nodes(kind, net)", "slack(kind, net)",
        "outer_scan(width)",
    ],
    "tight": [
        "fits(levels, turns)", "widest(levels)", "tight_scan(width, levels)", "tight_at(kind, net)", "spine(net)",
        "arms(net)",
    ],
    "rounds": [
        "least_rounds(width, workers)", "scan_rounds(width, workers)", "timetable(net, workers)",
        "round_count(net, workers, rounds)",
    ],
    "windows": [
        "windows_of(kind, net, wide)", "is_window_net(kind, net, wide)", "window_heights(kind, net, wide)",
        "least_windows(width, wide)", "window_net(width, wide)", "least_low_windows(kind, width)",
        "low_window_net(kind, width)",
    ],
    "trials": ["take(desk, deed)", "play(desk, deeds)", "tried(desk, deeds)", "ready_without(desk, nodes)"],
    "listings": ["desk_listing(desk)"],
}

PLAIN = ["plain(self, word)"]

MADE_OF_REMAINS = "__init__(self, net, kind, goal, *, loss=())"

METHODS = {
    "kinds.Kind": PLAIN + ["merged(self, left, right)"],
    "kinds.BagKind": PLAIN, "kinds.SetKind": PLAIN, "kinds.HeadsKind": PLAIN, "kinds.FirstKind": PLAIN,
    "kinds.TailsKind": PLAIN, "kinds.LastKind": PLAIN, "kinds.EndsKind": PLAIN,
    "tables.Table": ["__init__(self, rows)", "rows(self)", "__call__(self, one, other)", "fold(self, word)",
                     "fault(self, kind)"],
    "feeds.Feed": [
        "__init__(self, parts)", "strands_at(self, length)", "size_at(self, length)", "word_at(self, length)",
        "index_at(self, length, place)", "stages(self, length)", "run(self, things)", "__call__(self, things)",
        "__rshift__(self, other)", "__add__(self, other)", "__invert__(self)", "__len__(self)", "__iter__(self)",
        "__str__(self)",
    ],
    "lines.Numbers": ["__init__(self, *, divisor=1, modulus=1, spread=0, stride=1, reach=1)", "fields(self)",
                      "__or__(self, other)"],
    "lines.StrandLine": ["strand_at(self, turn)", "place_at(self, turn)"],
    "nets.Net": [
        "__init__(self, width, merges=())", "__contains__(self, node)", "pairs(self)", "parts_of(self, node)",
        "steps(self)", "lengths(self)", "heights(self)", "words(self)", "plain_values(self, kind)",
        "word_length(self, node)", "height(self, node)", "word(self, node)", "plain_of(self, kind, node)",
        "tops(self)", "results(self, table, row)", "with_merge(self, one, other)", "moved(self, node, *, by)",
        "__add__(self, other)",
    ],
    "spans.Remains": [
        MADE_OF_REMAINS, "standing(self)", "useful(self)", "fronts(self)", "backs(self)", "whole_nodes(self)",
        "spans(self)",
    ],
    "mending.Mending": [
        MADE_OF_REMAINS, "__iter__(self)", "letter_sets(self)", "mends(self, row)", "mended(self)", "least_net(self)",
        "makers(self, other)", "worth(self, node)",
    ],
    "flows.Flow": ["__init__(self, spans, end)", "ways(self)", "places(self)", "cut(self)"],
    "strengths.Strength": [
        MADE_OF_REMAINS, "blow(self)", "places(self)", "weakest(self)", "mendings(self)", "__call__(self, nodes)",
        "vital(self)",
    ],
    "plans.Plan": [
        "__init__(self, pieces)", "pieces(self)", "__iter__(self)", "__add__(self, other)", "__rrshift__(self, other)",
        "joined(self)", "word_of(self, number, length)", "words_at(self, length)", "word_at(self, length)",
        "full_run(self)", "run_word(self, run, length)",
    ],
    "desks.Desk": [
        "__init__(self, kind, plan, length)", "arrive(self, number)", "bring(self, index)", "lose(self, node)",
        "settle(self)", "close(self)", "standing(self)", "lost(self)", "__iter__(self)", "outcome_of(self, number)",
        "ready(self)", "answer(self)", "wants(self)", "bears(self)",
    ],
    "trials.Trial": ["__init__(self, desk)", "__enter__(self)", "__exit__(self, kind, value, trace)"],
}

PROPERTIES = {
    "tables.Table": ["order"], "feeds.Feed": ["parts", "text", "leaves"], "lines.Numbers": ["settled"],
    "nets.Net": ["size", "merge_count", "tallest"], "spans.Remains": ["goal", "spanned"],
    "mending.Mending": ["fewest"], "strengths.Strength": ["strength"], "plans.Plan": ["many", "text"],
    "desks.Desk": ["goal", "net", "many", "made", "closed"],
}

BASES = {"mending.Mending": "spans.Remains", "strengths.Strength": "spans.Remains"}

GENERATORS = ["feeds.Feed.stages", "nets.Net.steps", "verdicts.differing", "trials.play"]


def module_named(name):
    return importlib.import_module(f"unseenfolds.{name}")


def class_named(path):
    module, name = path.split(".")
    return getattr(module_named(module), name)


class InterfaceTest(unittest.TestCase):
    def test_functions(self):
        for name, functions in FUNCTIONS.items():
            for told in functions:
                function = getattr(module_named(name), told.split("(")[0])
                self.assertEqual(function.__module__, f"unseenfolds.{name}")
                self.assertEqual(function.__name__ + str(inspect.signature(function)), told)

    def test_methods_stand_in_their_class(self):
        for path, methods in METHODS.items():
            made = class_named(path)
            self.assertEqual(made.__module__, f"unseenfolds.{path.split('.')[0]}")
            for told in methods:
                name = told.split("(")[0]
                self.assertIn(name, vars(made), path)
                self.assertEqual(name + str(inspect.signature(vars(made)[name])), told, path)

    def test_properties(self):
        for path, names in PROPERTIES.items():
            for name in names:
                self.assertIsInstance(vars(class_named(path))[name], property)

    def test_bases(self):
        for path, base in BASES.items():
            self.assertEqual(class_named(path).__bases__, (class_named(base),))

    def test_class_and_static_methods(self):
        for path in ("feeds.Feed", "plans.Plan"):
            made = class_named(path)
            self.assertIsInstance(vars(made)["read"], classmethod)
            self.assertEqual(str(inspect.signature(made.read)), "(text)")
        made = class_named("feeds.Feed")
        self.assertIsInstance(vars(made)["same"], staticmethod)
        self.assertEqual(str(inspect.signature(made.same)), "()")

    def test_generators(self):
        for path in GENERATORS:
            module, *names = path.split(".")
            thing = module_named(module)
            for name in names:
                thing = getattr(thing, name)
            self.assertTrue(inspect.isgeneratorfunction(thing), path)


class AnyName:
    """A thing that is equal to each name, and still is none."""

    def __eq__(self, other):
        return True

    def __hash__(self):
        return 0


class BadKindTest(FoldCase):
    """BadKind comes before any other check, whatever else is handed in."""

    NOT_KINDS = ("", "List", "lists", "bag ", None, 0, True, ["list"], ("bag",), {"set": 1}, b"list", AnyName())

    def check(self, call, names, generator=False):
        for thing in self.NOT_KINDS:
            wrong = {"net": Net(1), "plan": Plan.read("same"), "kind": thing, "other": "x"}
            args = {name: wrong.get(name) for name in names}
            try:
                told = call(**args)
                told = list(told) if generator else told
            except BadKind as error:
                self.assertIs(error.name, thing)
            else:
                self.fail(f"{call} {thing!r} {told!r}")

    def test_functions(self):
        checked = 0
        for name, functions in FUNCTIONS.items():
            for told in functions:
                function = getattr(module_named(name), told.split("(")[0])
                names = list(inspect.signature(function).parameters)
                if "kind" in names:
                    self.check(function, names, inspect.isgeneratorfunction(function))
                    checked += 1
        self.assertGreater(checked, 45)

    def test_classes_and_methods(self):
        for path in ("spans.Remains", "mending.Mending", "strengths.Strength", "desks.Desk"):
            names = list(inspect.signature(class_named(path)).parameters)
            self.check(class_named(path), names)
        self.check(Net(1).plain_values, ["kind"])
        self.check(Net(1).plain_of, ["kind", "node"])
        self.check(class_named("tables.Table")([[0]]).fault, ["kind"])

    def test_the_first_of_two_kinds(self):
        for name in ("broken_rule", "under"):
            function = getattr(module_named("kinds"), name)
            self.assert_raises_like(BadKind("x"), function, "x", "y")
            self.assert_raises_like(BadKind("y"), function, "set", "y")


if __name__ == "__main__":
    unittest.main()
