"""Points 25 to 27 and 30: alike at a length, alike for ever, and parted."""

import itertools
import unittest

from tests.helpers import BIG, TOLD_400, TOLD_401, FoldCase, few_feeds, feed_pairs, short_pairs
from unseenfolds.cells import base_of, told_of, together
from unseenfolds.errors import BadKind, BadLength, TooLarge
from unseenfolds.feeds import Feed
from unseenfolds.kinds import KIND_NAMES, alike, under
from unseenfolds.verdicts import alike_at, alike_forever, differing, parted

class AlikeAtTest(FoldCase):
    def test_the_example(self):
        p, q = feed_pairs()[0]
        self.assertIs(alike_at("heads", p, q, 10 ** 30), True)
        self.assertIs(alike_at("bag", p, q, 10 ** 30), False)
        self.assertEqual(parted("bag", p, q), (1, (0, 0), (0,)))

    def test_listed_words_tell_the_same(self):
        for p, q in short_pairs():
            for length in range(12):
                one, other = p.word_at(length), q.word_at(length)
                for kind in KIND_NAMES:
                    told = alike(kind, one, other)
                    self.assertIs(alike_at(kind, p, q, length), told, (kind, p.text, q.text, length))

    def test_small_feeds_among_one_another(self):
        feeds = few_feeds()
        for p, q in itertools.product(feeds, repeat=2):
            for length in (3, 8):
                one, other = p.word_at(length), q.word_at(length)
                for kind in KIND_NAMES:
                    self.assertIs(alike_at(kind, p, q, length), alike(kind, one, other))

    def test_one_word_cut_into_strands_in_several_ways(self):
        same = Feed.same()
        for text in ("both (front 1) (rest 1)", "both (but 1) (last 1)", "both (front 0) (same)",
                     "both (block 3 0) (both (block 3 1) (block 3 2))", "both (both (front 2) (rest 2; front 1)) (rest 3)"):
            p = Feed.read(text)
            for length in (0, 1, 2, 3, 7, BIG):
                self.assertIs(alike_at("list", p, same, length), True, (text, length))
                self.assertIs(alike_at("list", ~p, Feed.read("turn"), length), True)
                self.assertIs(alike_at("list", p, Feed.read("turn"), length), length < 2)
                self.assertIs(alike_at("list", p, Feed.read("but 1"), length), length == 0)

    def test_the_lengths_0_and_1(self):
        for p, q in feed_pairs():
            for kind in KIND_NAMES:
                self.assertIs(alike_at(kind, p, q, 0), True)
        self.assertIs(alike_at("set", Feed.same(), Feed.read("rest 1"), 1), False)
        self.assertIs(alike_at("first", Feed.same(), Feed.read("rest 1"), 1), False)
        self.assertIs(alike_at("ends", Feed.read("rest 1"), Feed.read("front 0"), 1), True)

    def test_long_lengths(self):
        turn, same = Feed.read("turn"), Feed.same()
        told = {"list": False, "bag": True, "set": True, "first": False, "last": False, "ends": False, "heads": False,
                "tails": False}
        for kind, answer in told.items():
            self.assertIs(alike_at(kind, turn, same, BIG), answer)
        one, other = Feed.read("both (turn) (same)"), Feed.read("both (turn) (both (same) (same))")
        told = {"list": False, "bag": False}
        for kind in KIND_NAMES:
            self.assertIs(alike_at(kind, one, other, BIG), told.get(kind, True))
        one, other = Feed.read("both (each 2 0) (same)"), Feed.read("both (same) (each 2 1)")
        told = {"list": False, "set": True, "first": True, "last": BIG % 2 == 0}
        for kind, answer in told.items():
            self.assertIs(alike_at(kind, one, other, BIG), answer)

    def test_lengths_that_differ_by_the_cycle(self):
        for p, q in short_pairs()[::4]:
            numbers = together(p, q)
            base, cycle = base_of(p, q), numbers.modulus * numbers.stride
            for length in (base, base + 1, base + cycle - 1):
                for kind in KIND_NAMES:
                    told = alike(kind, p.word_at(length), q.word_at(length))
                    self.assertIs(alike_at(kind, p, q, length), told)
                    self.assertIs(alike_at(kind, p, q, length + cycle), told)
                    self.assertIs(alike_at(kind, p, q, length + cycle * BIG), told)

    def test_errors(self):
        p, q = Feed.same(), Feed.read("turn")
        self.assert_raises_like(BadLength(-1), alike_at, "list", p, q, -1)
        for kind in KIND_NAMES:
            self.assert_raises_like(BadLength(-2), alike_at, kind, p, q, -2)
        self.assert_raises_like(BadKind("Bag"), alike_at, "Bag", p, q, -1)
        self.assert_raises_like(BadKind(None), alike_at, None, p, q, 1)


class PartedTest(FoldCase):
    def test_the_least_length_below_told(self):
        for p, q in short_pairs()[::2]:
            if told_of(p, q) > 120:
                continue
            for kind in KIND_NAMES:
                lengths = [n for n in range(told_of(p, q)) if not alike(kind, p.word_at(n), q.word_at(n))]
                told = (lengths[0], p.word_at(lengths[0]), q.word_at(lengths[0])) if lengths else None
                self.assertEqual(parted(kind, p, q), told, (kind, p.text, q.text))
                self.assertIs(alike_forever(kind, p, q), told is None)

    def test_what_is_alike_below_told_is_so_behind_it(self):
        for p, q in feed_pairs():
            told = told_of(p, q)
            for kind in KIND_NAMES:
                if alike_forever(kind, p, q):
                    for length in list(range(told, told + 40)) + [BIG, BIG + 1]:
                        self.assertTrue(alike_at(kind, p, q, length))

    def test_a_late_difference(self):
        p, q = Feed.read("both (same) (front 30)"), Feed.read("both (same) (front 31)")
        self.assertEqual(parted("bag", p, q)[0], 31)
        self.assertIsNone(parted("heads", p, q))
        self.assertEqual(parted("tails", p, q)[0], 31)

    def test_exactly_400_and_401(self):
        p = Feed.read(TOLD_400)
        self.assertEqual(parted("set", p, Feed.same()), None)
        self.assertEqual(parted("list", p, Feed.same())[0], 1)
        self.assertIs(alike_forever("set", p, Feed.same()), True)
        q = Feed.read(TOLD_401)
        self.assert_raises_like(TooLarge("told"), parted, "list", q, Feed.same())
        self.assert_raises_like(TooLarge("told"), alike_forever, "list", Feed.same(), q)
        self.assertEqual(told_of(q), 400)
        self.assert_raises_like(TooLarge("told"), parted, "list", q, q)

    def test_no_kind_comes_first(self):
        q = Feed.read(TOLD_401)
        self.assert_raises_like(BadKind("set "), parted, "set ", q, q)
        self.assert_raises_like(BadKind(1), alike_forever, 1, q, q)

    def test_what_follows_from_alike_for_ever(self):
        feeds = [Feed.read(text) for text in ("same", "turn", "front 2", "each 2 1", "both (last 1) (same)")]
        for p, q in feed_pairs():
            for kind in KIND_NAMES:
                if not alike_forever(kind, p, q):
                    continue
                for other in KIND_NAMES:
                    if under(other, kind):
                        self.assertTrue(alike_forever(other, p, q))
                for f in feeds:
                    pairs = [(f >> p, f >> q), (p + f, q + f), (f + p, f + q)]
                    pairs += [(~p, q)] if kind in ("bag", "set") else []
                    pairs += [(p >> f, q >> f)] if kind == "list" else []
                    for one, other in pairs:
                        for length in (0, 1, 5, 12, BIG):
                            self.assertTrue(alike_at(kind, one, other, length))

    def test_heads_and_tails(self):
        for p, q in feed_pairs():
            self.assertIs(alike_forever("heads", p, q), alike_forever("tails", ~p, ~q))


class DifferingTest(FoldCase):
    def test_lengths(self):
        for p, q in feed_pairs():
            for kind in KIND_NAMES:
                told = [n for n in range(20) if not alike(kind, p.word_at(n), q.word_at(n))]
                self.assertEqual(list(differing(kind, p, q, below=20)), told)

    def test_below(self):
        p, q = Feed.same(), Feed.read("turn")
        self.assertEqual(list(differing("list", p, q, below=2)), [])
        self.assertEqual(list(differing("list", p, q, below=3)), [2])
        self.assertEqual(list(differing("list", p, q, below=0)), [])
        self.assertEqual(list(differing("list", p, q, below=-4)), [])

    def test_one_after_the_other(self):
        lengths = differing("list", Feed.same(), Feed.read("turn"), below=BIG)
        self.assertEqual([next(lengths), next(lengths), next(lengths)], [2, 3, 4])

    def test_no_bound_of_told(self):
        q = Feed.read(TOLD_401)
        self.assertEqual(list(differing("set", q, Feed.same(), below=103)), [100, 101, 102])

    def test_no_kind_is_told_when_the_first_is_asked_for(self):
        for below in (5, 0, -1):
            lengths = differing("heap", Feed.same(), Feed.same(), below=below)
            self.assert_raises_like(BadKind("heap"), next, lengths)


if __name__ == "__main__":
    unittest.main()
