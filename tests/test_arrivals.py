"""Points 69, 70 and the parts of 61 and 67 about orders: any order of arrival, with losses and repeats."""

import itertools
import unittest

from tests.helpers import BIG, TOLD_400, TOLD_401, FoldCase
from tests.planhelpers import (all_alike, all_plans, drawn_plans, run_value, runs_in_any_order, runs_with_repeats,
                               small_plans, told_plans)
from unseenfolds.arrivals import any_order, any_order_again, any_order_lost, order_matters, parting_runs
from unseenfolds.errors import BadKind, BadLength, BadLosses, TooLarge
from unseenfolds.kinds import KIND_NAMES, plain_value, under
from unseenfolds.losses import noticed
from unseenfolds.plans import Plan, class_length
from unseenfolds.tolerances import tolerance


def agree_by_rule(kind, a, b):
    """Whether two pieces agree, as point 69 says it."""
    if kind in ("bag", "set"):
        return True
    if kind == "list":
        return a + b == b + a
    if kind == "first":
        return not a or not b or a[0] == b[0]
    if kind == "last":
        return not a or not b or a[-1] == b[-1]
    if kind == "ends":
        return agree_by_rule("first", a, b) and agree_by_rule("last", a, b)
    one, other = sorted((plain_value(kind, a), plain_value(kind, b)), key=len)
    return (other[:len(one)] if kind == "heads" else other[len(other) - len(one):]) == one


def runs_by_rule(kind, words):
    """The parting runs, as point 69 says it."""
    if kind == "ends":
        return runs_by_rule("first", words) or runs_by_rule("last", words)
    for i, j in itertools.combinations(range(len(words)), 2):
        if not agree_by_rule(kind, words[i], words[j]):
            others = tuple(number for number in range(len(words)) if number not in (i, j))
            if kind in ("list", "first", "heads"):
                return (i, j) + others, (j, i) + others
            return others + (i, j), others + (j, i)
    return None


class OrderTest(FoldCase):
    def test_any_order(self):
        for plan, length, kind in itertools.product(all_plans(), range(7), KIND_NAMES):
            words = plan.words_at(length)
            told = all_alike(kind, words, runs_in_any_order(plan.many, 0))
            self.assertIs(any_order(kind, plan, length), told, (kind, plan.text, length))
            pairs = itertools.combinations(words, 2)
            self.assertIs(all(agree_by_rule(kind, a, b) for a, b in pairs), told)

    def test_parting_runs(self):
        for plan, length, kind in itertools.product(all_plans(), range(7), KIND_NAMES):
            words, runs = plan.words_at(length), parting_runs(kind, plan, length)
            self.assertEqual(runs, runs_by_rule(kind, words))
            self.assertIs(runs is None, any_order(kind, plan, length))
            if runs is not None:
                self.assertIsInstance(runs, tuple)
                for run in runs:
                    self.assertIsInstance(run, tuple)
                    self.assertEqual(sorted(run), list(range(plan.many)))
                self.assertNotEqual(run_value(kind, words, runs[0]), run_value(kind, words, runs[1]))

    def test_examples(self):
        plan = Plan.read("front 2\nsame\nlast 2")
        told = [parting_runs(kind, plan, 3) for kind in KIND_NAMES]
        front = ((0, 2, 1), (2, 0, 1))
        self.assertEqual(told, [((0, 1, 2), (1, 0, 2)), None, None, front, ((2, 0, 1), (2, 1, 0)), front, front,
                                ((2, 0, 1), (2, 1, 0))])
        # Under ends those of last, if first has none.
        plan = Plan.read("same\nsame; but 1\nsame")
        self.assertEqual(parting_runs("first", plan, 3), None)
        self.assertEqual(parting_runs("last", plan, 3), ((2, 0, 1), (2, 1, 0)))
        self.assertEqual(parting_runs("ends", plan, 3), ((2, 0, 1), (2, 1, 0)))

    def test_one_piece_and_empty_pieces(self):
        for kind, length in itertools.product(KIND_NAMES, (0, 1, 6)):
            self.assertIsNone(parting_runs(kind, Plan.read("same"), length))
            self.assertIs(any_order(kind, Plan.read("front 0\nsame\nlast 0"), length), True)
            self.assertIs(any_order(kind, Plan.read("\n".join(["turn"] * 12)), length), True)

    def test_words_that_commute(self):
        # Under list, words that commute are repeats of one word.
        plan = Plan.read("both (same) (same)\nsame\nboth (both (same) (same)) (same)")
        self.assertEqual([any_order("list", plan, length) for length in (0, 1, 5, 100)], [True] * 4)

    def test_large_plans(self):
        plan = Plan.read("\n".join(["same"] * 11 + ["turn"]))
        told = [any_order(kind, plan, 400) for kind in KIND_NAMES]
        self.assertEqual(told, [False, True, True, False, False, False, False, False])
        self.assertEqual(parting_runs("tails", plan, 400)[1], tuple(range(1, 11)) + (11, 0))


class LostTest(FoldCase):
    def test_against_a_search_of_all_runs(self):
        for plan, length, kind in itertools.product(all_plans(), range(6), KIND_NAMES):
            if plan.many > 4:
                continue
            words = plan.words_at(length)
            for lacks in range(plan.many + 2):
                told = all_alike(kind, words, runs_in_any_order(plan.many, lacks))
                self.assertIs(any_order_lost(kind, plan, length, lacks), told, (kind, plan.text, length, lacks))

    def test_none_lost(self):
        for plan, length, kind in itertools.product(small_plans(), range(6), KIND_NAMES):
            told = any_order(kind, plan, length)
            self.assertIs(any_order_lost(kind, plan, length, 0), told)

    def test_as_many_as_there_are_and_more(self):
        for plan, kind in itertools.product(small_plans(), KIND_NAMES):
            for length in range(5):
                for lacks in (plan.many, plan.many + 1, BIG):
                    self.assertIs(any_order_lost(kind, plan, length, lacks), plan.word_at(length) == ())

    def test_it_is_borne(self):
        for plan, length, kind in itertools.product(all_plans(), range(1, 6), KIND_NAMES):
            for lacks in range(plan.many + 1):
                if any_order_lost(kind, plan, length, lacks):
                    self.assertGreaterEqual(tolerance(kind, plan, length), lacks)
                    self.assertTrue(any_order(kind, plan, length))

    def test_kinds_under_kinds(self):
        for plan, length in itertools.product(all_plans(), range(1, 6)):
            for call in (any_order, any_order_again, lambda *row: any_order_lost(*row, 1)):
                told = {kind: call(kind, plan, length) for kind in KIND_NAMES}
                for kind, other in itertools.product(KIND_NAMES, repeat=2):
                    if under(kind, other) and told[other]:
                        self.assertTrue(told[kind])


class AgainTest(FoldCase):
    def test_against_a_search_of_runs(self):
        for plan in all_plans():
            if plan.many > 4:
                continue
            runs = runs_with_repeats(plan.many, 2 if plan.many < 4 else 1)
            for length, kind in itertools.product(range(5), KIND_NAMES):
                told = all_alike(kind, plan.words_at(length), runs)
                self.assertIs(any_order_again(kind, plan, length), told, (kind, plan.text, length))

    def test_more_pieces(self):
        for plan, length, kind in itertools.product(drawn_plans(20, 269, most=8), (0, 3), KIND_NAMES):
            told = any_order(kind, plan, length) if kind not in ("list", "bag") else plan.word_at(length) == ()
            self.assertIs(any_order_again(kind, plan, length), told)


class ForEverTest(FoldCase):
    def test_the_least_length(self):
        for plan, told in told_plans():
            for kind in KIND_NAMES:
                lengths = [length for length in range(told) if not any_order(kind, plan, length)]
                self.assertEqual(order_matters(kind, plan), lengths[0] if lengths else None)

    def test_lengths_of_one_class(self):
        for plan, told in told_plans():
            for length in (told, told + 1, told + 6, 2 * told + 5):
                if length > 250:
                    continue
                at = class_length(plan, length)
                for kind in KIND_NAMES:
                    self.assertEqual(any_order(kind, plan, length), any_order(kind, plan, at))
                    self.assertEqual(parting_runs(kind, plan, length), parting_runs(kind, plan, at))
                    self.assertEqual(any_order_again(kind, plan, length), any_order_again(kind, plan, at))
                    for lacks in (0, 1, 2):
                        answers = [any_order_lost(kind, plan, n, lacks) for n in (length, at)]
                        self.assertEqual(answers[0], answers[1])

    def test_a_late_length(self):
        plan = Plan.read("front 20\nsame")
        self.assertEqual([order_matters(kind, plan) for kind in KIND_NAMES],
                         [21, None, None, None, 21, 21, None, 21])

    def test_just_400_and_just_above(self):
        self.assertIsNone(order_matters("list", Plan.read(TOLD_400)))
        for kind in KIND_NAMES:
            self.assert_raises_like(TooLarge("told"), order_matters, kind, Plan.read(TOLD_401))
            self.assertIs(any_order(kind, Plan.read(TOLD_401), 3), True)


class ErrorTest(FoldCase):
    def test_errors_and_their_order(self):
        plan = Plan.read(TOLD_401)
        for thing in ("sets", "", None, 3, ["set"], True):
            for call in (parting_runs, any_order, any_order_again):
                self.assert_raises_like(BadKind(thing), call, thing, plan, -1)
            self.assert_raises_like(BadKind(thing), any_order_lost, thing, plan, -1, -1)
            self.assert_raises_like(BadKind(thing), order_matters, thing, plan)
        for kind, length in itertools.product(KIND_NAMES, (-1, -BIG)):
            for call in (parting_runs, any_order, any_order_again):
                self.assert_raises_like(BadLength(length), call, kind, plan, length)
            self.assert_raises_like(BadLosses(-1), any_order_lost, kind, plan, length, -1)
            self.assert_raises_like(BadLosses(length), any_order_lost, kind, plan, 3, length)
            self.assert_raises_like(BadLength(length), any_order_lost, kind, plan, length, 0)

    def test_the_examples(self):
        plan = Plan.read("front 2\nsame\nlast 2")
        told = [plan.word_at(3), noticed("set", plan, 1), tolerance("heads", plan, 3), parting_runs("heads", plan, 3)]
        self.assertEqual(told, [(0, 1, 0, 1, 2, 1, 2), 5, 1, ((0, 2, 1), (2, 0, 1))])


if __name__ == "__main__":
    unittest.main()
