"""Points 23, 28 and 29: copies of an index, lost and doubled ones, extremes, rearrangements."""

import unittest

from tests.helpers import BIG, TOLD_400, TOLD_401, FoldCase, few_feeds, small_feeds
from unseenfolds.cells import base_of, told_of, together
from unseenfolds.copies import copies_of, copy_numbers, counts_at, doubled, extremes, lost, rearranges
from unseenfolds.errors import BadIndex, BadLength, TooLarge
from unseenfolds.feeds import Feed
from unseenfolds.verdicts import alike_forever


def counts_by_word(f, length):
    word = f.word_at(length)
    return [word.count(index) for index in range(length)]


def first_with(f, test):
    """The least length below told, and the least index there, with such a number of copies; None if there is none."""
    for length in range(told_of(f, Feed.same())):
        for index, many in enumerate(counts_by_word(f, length)):
            if test(many):
                return (length, index)
    return None


def short_feeds():
    return [f for f in small_feeds() if told_of(f, Feed.same()) <= 60]


class CopiesTest(FoldCase):
    def test_copies_and_counts(self):
        for f in few_feeds():
            for length in (0, 1, 2, 8, 15):
                counts = counts_by_word(f, length)
                self.assertEqual(counts_at(f, length), counts)
                self.assertEqual(copy_numbers(f, length), sorted(set(counts)))
                self.assertEqual([copies_of(f, length, index) for index in range(length)], counts)

    def test_the_length_0(self):
        self.assertEqual([counts_at(Feed.same(), 0), copy_numbers(Feed.same(), 0)], [[], []])
        self.assert_raises_like(BadIndex(0), copies_of, Feed.same(), 0, 0)

    def test_none_counts_too(self):
        self.assertEqual(copy_numbers(Feed.read("front 0"), 3), [0])
        self.assertEqual(copy_numbers(Feed.read("both (same) (front 1)"), 1), [2])
        self.assertEqual(copy_numbers(Feed.read("both (but 1) (front 1)"), 5), [0, 1, 2])

    def test_errors(self):
        f = Feed.read("turn")
        self.assert_raises_like(BadLength(-1), copies_of, f, -1, -1)
        self.assert_raises_like(BadIndex(4), copies_of, f, 4, 4)
        self.assert_raises_like(BadIndex(-1), copies_of, f, 4, -1)
        self.assert_raises_like(BadLength(-2), counts_at, f, -2)
        self.assert_raises_like(BadLength(-2), copy_numbers, f, -2)

    def test_long_lengths(self):
        f = Feed.read("both (turn; rest 2) (both (each 2 0) (each 3 1))")
        self.assertEqual(copies_of(f, BIG, BIG - 1), ((BIG - 1) % 2 == 0) + ((BIG - 1) % 3 == 1))
        self.assertEqual([copies_of(f, BIG, index) for index in (0, 3, 4)], [2, 1, 3])
        self.assertEqual(copy_numbers(Feed.read("both (turn; rest 2) (each 2 0)"), BIG), [0, 1, 2])
        self.assertEqual(copy_numbers(Feed.read("both (front 7) (rest 7)"), BIG), [1])
        self.assertEqual(copy_numbers(Feed.read("both (front 7) (rest 6)"), BIG), [1, 2])

    def test_lengths_that_differ_by_the_cycle(self):
        for f in few_feeds():
            numbers = together(f, Feed.same())
            base, cycle = base_of(f, Feed.same()), numbers.modulus * numbers.stride
            for length in (base, base + 1, base + cycle - 1):
                told = copy_numbers(f, length)
                self.assertEqual(told, sorted(set(counts_by_word(f, length))))
                self.assertEqual(told, copy_numbers(f, length + cycle))
                self.assertEqual(told, copy_numbers(f, length + cycle * BIG))

    def test_each_list_is_new(self):
        f = Feed.same()
        counts_at(f, 3).clear()
        copy_numbers(f, 3).append(9)
        self.assertEqual([counts_at(f, 3), copy_numbers(f, 3)], [[1, 1, 1], [1]])


class ForEverTest(FoldCase):
    def test_the_example(self):
        f = Feed.read("both (front 2) (last 2)")
        self.assertEqual([lost(f), doubled(f), extremes(f)], [(5, 2), (1, 0), ((0, 5, 2), (2, 1, 0))])

    def test_some_feeds(self):
        told = {
            "same": (None, None, ((1, 1, 0), (1, 1, 0))),
            "front 0": ((1, 0), None, ((0, 1, 0), (0, 1, 0))),
            "rest 2": ((1, 0), None, ((0, 1, 0), (1, 3, 2))),
            "both (same) (rest 4)": (None, (5, 4), ((1, 1, 0), (2, 5, 4))),
            "front 7": ((8, 7), None, ((0, 8, 7), (1, 1, 0))),
            "both (each 2 0) (turn; each 2 1)": ((2, 1), (2, 0), ((0, 2, 1), (2, 2, 0))),
        }
        for text, answers in told.items():
            f = Feed.read(text)
            self.assertEqual((lost(f), doubled(f), extremes(f)), answers, text)

    def test_all_short_feeds(self):
        for f in short_feeds():
            self.assertEqual(lost(f), first_with(f, lambda many: many == 0), f.text)
            self.assertEqual(doubled(f), first_with(f, lambda many: many > 1), f.text)
            told = told_of(f, Feed.same())
            every = [many for length in range(told) for many in counts_by_word(f, length)]
            least, most = min(every), max(every)
            pair = ((least,) + first_with(f, lambda many: many == least), (most,) + first_with(f, lambda many: many == most))
            self.assertEqual(extremes(f), pair, f.text)

    def test_nothing_new_behind_told(self):
        for f in short_feeds()[::9]:
            told = told_of(f, Feed.same())
            least, most = extremes(f)[0][0], extremes(f)[1][0]
            for length in list(range(told, 3 * told)) + [BIG]:
                numbers = copy_numbers(f, length)
                self.assertTrue(least <= numbers[0] and numbers[-1] <= most)

    def test_rearrangements(self):
        good = ("same", "turn", "both (each 2 0) (each 2 1)", "both (block 3 2) (both (block 3 0) (block 3 1))",
                "both (rest 3; turn) (front 3)", "both (last 2) (but 2); turn", "each 1 0; block 1 0")
        for text in good:
            self.assertIs(rearranges(Feed.read(text)), True, text)
        bad = ("front 9", "both (same) (front 1)", "both (front 2) (rest 3)", "both (front 3) (rest 2)", "each 2 0",
               "both (each 2 0) (each 2 0)", "both (front 2) (last 2)")
        for text in bad:
            self.assertIs(rearranges(Feed.read(text)), False, text)

    def test_rearrangements_are_bags_of_all(self):
        for f in short_feeds():
            told = alike_forever("bag", f, Feed.same())
            self.assertIs(rearranges(f), told)
            self.assertIs(lost(f) is None and doubled(f) is None, told)

    def test_told_of_400_and_401(self):
        f = Feed.read(TOLD_400)
        self.assertEqual([lost(f), doubled(f), rearranges(f)], [None, (1, 0), False])
        self.assertEqual(extremes(f), ((1, 100, 99), (3, 1, 0)))
        for call in (lost, doubled, extremes, rearranges):
            self.assert_raises_like(TooLarge("told"), call, Feed.read(TOLD_401))
            self.assert_raises_like(TooLarge("told"), call, Feed.read("rest 99; rest 99"))


if __name__ == "__main__":
    unittest.main()
