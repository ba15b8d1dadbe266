"""Points 65, 66 and the parts of 61, 67 and 70 about tolerance."""

import itertools
import unittest

from tests.helpers import BIG, TOLD_400, TOLD_401, Draws, FoldCase
from tests.planhelpers import all_plans, drawn_plans, run_value, searched_tolerance, told_plans
from unseenfolds.errors import BadKind, BadLength, TooLarge
from unseenfolds.kinds import KIND_NAMES, under
from unseenfolds.plans import Plan, class_length
from unseenfolds.tolerances import least_tolerance, losing, tolerance


def is_noticed(kind, words, lost):
    rest = [number for number in range(len(words)) if number not in lost]
    return run_value(kind, words, rest) != run_value(kind, words, range(len(words)))


class ToleranceTest(FoldCase):
    def test_against_a_search_of_all_runs(self):
        for plan, length, kind in itertools.product(all_plans(), range(7), KIND_NAMES):
            told = searched_tolerance(kind, plan.words_at(length))
            self.assertEqual(tolerance(kind, plan, length), told, (kind, plan.text, length))

    def test_plans_of_more_pieces(self):
        for plan, kind in itertools.product(drawn_plans(25, 257, most=7), KIND_NAMES):
            for length in (2, 5):
                told = searched_tolerance(kind, plan.words_at(length))
                self.assertEqual(tolerance(kind, plan, length), told, (kind, plan.text, length))

    def test_words_of_any_letters(self):
        # Blocks joined give each word of few letters.
        draws = Draws(263)
        for _ in range(150):
            lines = []
            for _ in range(1 + draws.below(5)):
                arms = [f"front {j + 1}; last 1" for j in [draws.below(4) for _ in range(draws.below(4))]]
                text = "front 0" if not arms else arms[0]
                for arm in arms[1:]:
                    text = f"both ({text}) ({arm})"
                lines.append(text)
            plan = Plan.read("\n".join(lines))
            for kind in KIND_NAMES:
                self.assertEqual(tolerance(kind, plan, 4), searched_tolerance(kind, plan.words_at(4)), plan.text)
                self.check_losing(kind, plan, 4)

    def check_losing(self, kind, plan, length):
        words = plan.words_at(length)
        told = losing(kind, plan, length)
        if not any(words):
            self.assertIsNone(told)
            self.assertEqual(tolerance(kind, plan, length), plan.many)
            return
        self.assertIsInstance(told, tuple)
        self.assertEqual(list(told), sorted(set(told)))
        self.assertTrue(set(told) <= set(range(plan.many)))
        self.assertEqual(len(told), tolerance(kind, plan, length) + 1)
        self.assertTrue(is_noticed(kind, words, told))

    def test_losing(self):
        for plan, length, kind in itertools.product(all_plans(), range(8), KIND_NAMES):
            self.check_losing(kind, plan, length)

    def test_the_example(self):
        plan = Plan.read("front 2\nsame\nlast 2")
        self.assertEqual([tolerance(kind, plan, 3) for kind in KIND_NAMES], [0, 0, 1, 1, 1, 1, 1, 1])

    def test_empty_words(self):
        plan = Plan.read("front 0\nlast 0\nfront 0")
        for kind in KIND_NAMES:
            self.assertEqual([tolerance(kind, plan, 5), losing(kind, plan, 5)], [3, None])
            self.assertEqual([tolerance(kind, Plan.read("same"), length) for length in (0, 1, 5)], [1, 0, 0])
            self.assertEqual([losing(kind, Plan.read("same"), length) for length in (0, 1)], [None, (0,)])

    def test_equal_pieces(self):
        for many in (1, 2, 5, 12):
            plan = Plan.read("\n".join(["same"] * many))
            for kind in KIND_NAMES:
                told = [tolerance(kind, plan, length) for length in (0, 1, 7)]
                least = 0 if kind in ("list", "bag") else many - 1
                self.assertEqual(told, [many, least, least])

    def test_empty_pieces_bear_nothing(self):
        plan = Plan.read("front 0\nsame\nfront 0\nsame\nlast 0")
        for kind in KIND_NAMES:
            self.assertEqual(tolerance(kind, plan, 3), 0 if kind in ("list", "bag") else 1)

    def test_kinds_under_kinds(self):
        for plan, length in itertools.product(all_plans(), range(1, 7)):
            told = {kind: tolerance(kind, plan, length) for kind in KIND_NAMES}
            for kind, other in itertools.product(KIND_NAMES, repeat=2):
                if under(kind, other):
                    self.assertGreaterEqual(told[kind], told[other])

    def test_large_plans(self):
        plan = Plan.read("\n".join(["same", "turn"] * 6))
        told = {"list": 0, "bag": 0, "set": 11, "first": 0, "last": 0, "ends": 0, "heads": 0, "tails": 0}
        self.assertEqual({kind: tolerance(kind, plan, 400) for kind in KIND_NAMES}, told)
        plan = Plan.read("\n".join(["block 3 0", "block 3 1", "block 3 2"] * 4))
        told = {"list": 0, "bag": 0, "set": 3, "first": 0, "last": 0, "ends": 0, "heads": 0, "tails": 0}
        self.assertEqual({kind: tolerance(kind, plan, 400) for kind in KIND_NAMES}, told)


class ForEverTest(FoldCase):
    def test_the_least_at_all_lengths(self):
        for plan, told in told_plans():
            for kind in KIND_NAMES:
                worths = [(tolerance(kind, plan, length), length) for length in range(1, told)]
                self.assertEqual(least_tolerance(kind, plan), min(worths))

    def test_lengths_of_one_class(self):
        for plan, told in told_plans():
            for length in (told, told + 1, told + 4, 2 * told + 1):
                if length > 250:
                    continue
                for kind in KIND_NAMES:
                    at = class_length(plan, length)
                    self.assertEqual(tolerance(kind, plan, length), tolerance(kind, plan, at))
                    self.assertGreaterEqual(tolerance(kind, plan, length), least_tolerance(kind, plan)[0])

    def test_examples(self):
        plan = Plan.read("front 2\nsame\nlast 2")
        told = [(0, 1), (0, 1), (0, 5), (1, 3), (1, 3), (1, 3), (0, 5), (0, 5)]
        self.assertEqual([least_tolerance(kind, plan) for kind in KIND_NAMES], told)
        self.assertEqual(least_tolerance("set", Plan.read("front 0")), (1, 1))
        self.assertEqual(least_tolerance("list", Plan.read("rest 2")), (0, 3))

    def test_just_400_and_just_above(self):
        self.assertEqual(least_tolerance("set", Plan.read(TOLD_400)), (0, 1))
        for kind in KIND_NAMES:
            self.assert_raises_like(TooLarge("told"), least_tolerance, kind, Plan.read(TOLD_401))
            self.assertEqual(tolerance(kind, Plan.read(TOLD_401), 3), 0)


class ErrorTest(FoldCase):
    def test_errors_and_their_order(self):
        plan = Plan.read(TOLD_401)
        for thing in ("sets", "", None, 3, ["set"], True):
            self.assert_raises_like(BadKind(thing), tolerance, thing, plan, -1)
            self.assert_raises_like(BadKind(thing), losing, thing, plan, -1)
            self.assert_raises_like(BadKind(thing), least_tolerance, thing, plan)
        for kind, length in itertools.product(KIND_NAMES, (-1, -BIG)):
            self.assert_raises_like(BadLength(length), tolerance, kind, plan, length)
            self.assert_raises_like(BadLength(length), losing, kind, plan, length)


if __name__ == "__main__":
    unittest.main()
