"""Point 30: the kinds under which feeds are alike for ever, and the widest ones."""

import unittest

from tests.helpers import TOLD_400, TOLD_401, FoldCase, short_pairs
from unseenfolds.cells import told_of
from unseenfolds.errors import TooLarge
from unseenfolds.feeds import Feed
from unseenfolds.kinds import KIND_NAMES, under
from unseenfolds.leastkinds import kinds_alike, widest_kinds
from unseenfolds.verdicts import alike_forever


class KindsAlikeTest(FoldCase):
    def test_the_example(self):
        p = Feed.read("both (each 2 0) (each 2 1)")
        self.assertEqual(kinds_alike(p, Feed.same()), ["bag", "set", "first"])
        self.assertEqual(widest_kinds(p, Feed.same()), ["bag", "first"])

    def test_some_pairs(self):
        told = {
            ("same", "turn; turn"): (list(KIND_NAMES), ["list"]),
            ("same", "front 0"): ([], []),
            ("front 1", "same"): (["first"], ["first"]),
            ("both (front 1) (last 1)", "same"): (["first", "last", "ends"], ["ends"]),
            ("both (same) (same)", "same"): (["set", "first", "last", "ends", "heads", "tails"],
                                             ["ends", "heads", "tails"]),
            ("both (turn) (same)", "both (same) (same)"): (["bag", "set", "last", "tails"], ["bag", "tails"]),
        }
        for (one, other), (every, widest) in told.items():
            p, q = Feed.read(one), Feed.read(other)
            self.assertEqual(kinds_alike(p, q), every, (one, other))
            self.assertEqual(widest_kinds(p, q), widest, (one, other))

    def test_pairs_of_small_feeds(self):
        for p, q in short_pairs()[::7]:
            if told_of(p, q) > 60:
                continue
            every = [kind for kind in KIND_NAMES if alike_forever(kind, p, q)]
            widest = widest_kinds(p, q)
            self.assertEqual(kinds_alike(p, q), every)
            self.assertEqual(widest, [k for k in every if not any(o != k and under(k, o) for o in every)])
            for kind in KIND_NAMES:
                self.assertEqual(kind in every, any(under(kind, wide) for wide in widest))

    def test_exactly_400_and_401(self):
        self.assertEqual(widest_kinds(Feed.read(TOLD_400), Feed.same()), ["ends", "heads", "tails"])
        for call in (kinds_alike, widest_kinds):
            self.assert_raises_like(TooLarge("told"), call, Feed.read(TOLD_401), Feed.same())

    def test_each_list_is_new(self):
        p = Feed.same()
        kinds_alike(p, p).clear()
        widest_kinds(p, p).clear()
        self.assertEqual([kinds_alike(p, p), widest_kinds(p, p)], [list(KIND_NAMES), ["list"]])
        self.assertEqual(len(KIND_NAMES), 8)


if __name__ == "__main__":
    unittest.main()
