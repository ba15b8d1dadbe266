"""Point 68: fewest letters and spread plans."""

import itertools
import unittest

from tests.helpers import BIG, FoldCase, words_up_to
from tests.planhelpers import all_plans
from unseenfolds.errors import BadCount, BadKind, BadLosses, EmptyWord, NoTight, TooMany
from unseenfolds.folds import fold_letters
from unseenfolds.kinds import KIND_NAMES, alike, plain_value
from unseenfolds.plans import Plan
from unseenfolds.spreads import least_letters, spread_plan
from unseenfolds.tolerances import least_tolerance, tolerance

IDEMPOTENT = [kind for kind in KIND_NAMES if kind not in ("list", "bag")]


def pieces_by_rule(kind, k, lacks):
    """The texts of the pieces, as point 68 says it."""
    texts = {"first": ["front 1"], "last": ["last 1"], "ends": ["front 1", "last 1"], "list": ["same"], "bag": ["same"]}
    row = texts.get(kind, [f"block {k} {i}" for i in range(k)])
    return [text for text in row for _ in range(lacks + 1)]


class SpreadTest(FoldCase):
    def test_pieces(self):
        for kind, k, lacks in itertools.product(KIND_NAMES, range(1, 10), range(13)):
            texts = pieces_by_rule(kind, k, lacks)
            if kind in ("list", "bag") and lacks > 0:
                self.assert_raises_like(NoTight(lacks), spread_plan, kind, k, lacks)
            elif len(texts) > 12:
                self.assert_raises_like(TooMany(len(texts)), spread_plan, kind, k, lacks)
            else:
                plan = spread_plan(kind, k, lacks)
                self.assertIsInstance(plan, Plan)
                self.assertEqual([piece.text for piece in plan], texts)

    def test_words_letters_and_tolerance(self):
        for kind, k, lacks in itertools.product(KIND_NAMES, range(1, 10), range(12)):
            if (kind in ("list", "bag") and lacks) or len(pieces_by_rule(kind, k, lacks)) > 12:
                continue
            plan = spread_plan(kind, k, lacks)
            for length in (0, 1, 2, 3, 7, 8, 9, 10, 31):
                word, same = plan.word_at(length), tuple(range(length))
                self.assertTrue(alike(kind, word, same))
                if length >= 1:
                    self.assertEqual(len(word) if (kind, length) != ("ends", 1) else len(word) // 2,
                                     least_letters(kind, same, lacks))
                    # Under ends at the length 1 both of its pieces are equal.
                    told = 2 * lacks + 1 if (kind, length) == ("ends", 1) else lacks
                    self.assertEqual(tolerance(kind, plan, length), told)

    def test_the_least_tolerance_for_ever(self):
        for kind, k, lacks in (("set", 2, 1), ("heads", 2, 2), ("tails", 2, 0), ("first", 9, 5), ("last", 1, 3),
                               ("ends", 4, 2), ("list", 5, 0), ("bag", 5, 0), ("heads", 1, 11)):
            told = least_tolerance(kind, spread_plan(kind, k, lacks))
            self.assertEqual(told, (lacks, 2 if kind == "ends" else 1))


class LeastLettersTest(FoldCase):
    def test_by_rule(self):
        for word in words_up_to((0, 3, 5), 4):
            for lacks in range(4):
                for kind in IDEMPOTENT:
                    if word:
                        told = (lacks + 1) * len(set(plain_value(kind, word)))
                        self.assertEqual(least_letters(kind, word, lacks), told)
                        self.assertEqual(least_letters(kind, list(word), lacks), told)
                        self.assertEqual(told, (lacks + 1) * len(fold_letters(kind, word)))
            if word:
                # Not simple, too.
                self.assertEqual([least_letters(kind, word, 0) for kind in ("list", "bag")], [len(word)] * 2)

    def test_a_plan_has_at_least_so_many(self):
        for plan, length, kind in itertools.product(all_plans(), range(7), KIND_NAMES):
            word = plan.word_at(length)
            if word:
                borne = tolerance(kind, plan, length)
                if kind in ("list", "bag"):
                    self.assertEqual(borne, 0)
                for lacks in range(borne + 1):
                    self.assertGreaterEqual(len(word), least_letters(kind, word, lacks))

    def test_as_many_as_one_likes(self):
        self.assertEqual(least_letters("set", (1, 1, 2), BIG), 2 * (BIG + 1))
        self.assertEqual([least_letters("ends", word, 2) for word in ((4,), (4, 4), (4, 5))], [3, 3, 6])


class ErrorTest(FoldCase):
    def test_spread_plan(self):
        for thing in ("sets", "", None, 3, ["set"]):
            self.assert_raises_like(BadKind(thing), spread_plan, thing, 0, -1)
        for kind in KIND_NAMES:
            for lacks in (-1, -BIG):
                self.assert_raises_like(BadLosses(lacks), spread_plan, kind, 0, lacks)
            for k in (0, 10, -1, BIG):
                self.assert_raises_like(BadCount(k), spread_plan, kind, k, 0)
        for kind in ("list", "bag"):
            for lacks in (1, 20, BIG):
                self.assert_raises_like(NoTight(lacks), spread_plan, kind, 0, lacks)
        for kind in IDEMPOTENT:
            for k in (0, 10):
                self.assert_raises_like(BadCount(k), spread_plan, kind, k, 20)
        self.assert_raises_like(TooMany(14), spread_plan, "set", 7, 1)
        self.assert_raises_like(TooMany(13), spread_plan, "first", 7, 12)
        self.assert_raises_like(TooMany(14), spread_plan, "ends", 7, 6)
        self.assert_raises_like(TooMany(3 * (BIG + 1)), spread_plan, "heads", 3, BIG)

    def test_least_letters(self):
        for thing in ("sets", "", None, 3, ["set"]):
            self.assert_raises_like(BadKind(thing), least_letters, thing, (), -1)
        for kind in KIND_NAMES:
            for lacks in (-1, -BIG):
                self.assert_raises_like(BadLosses(lacks), least_letters, kind, (), lacks)
            for word in ((), []):
                self.assert_raises_like(EmptyWord(), least_letters, kind, word, 0)
        for kind, lacks in itertools.product(("list", "bag"), (1, BIG)):
            self.assert_raises_like(NoTight(lacks), least_letters, kind, (), lacks)
            self.assert_raises_like(NoTight(lacks), least_letters, kind, (0, 0), lacks)

    def test_arguments_stay(self):
        word = [2, 0, 2]
        for kind in KIND_NAMES:
            least_letters(kind, word, 0)
        self.assertEqual(word, [2, 0, 2])


if __name__ == "__main__":
    unittest.main()
