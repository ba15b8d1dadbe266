"""Point 11: strands."""

import itertools
import unittest

from tests.helpers import BIG, FoldCase
from unseenfolds.errors import BadPlace
from unseenfolds.strands import is_strand, last_member, member_at, members, place_in, strand_cut, strand_each
from unseenfolds.strands import strand_turned


def small_strands():
    steps = (-3, -2, -1, 1, 2, 3)
    rows = itertools.product(range(7), steps, range(1, 6))
    return [(begin, step, count) for begin, step, count in rows if begin + step * (count - 1) >= 0]


class IsStrandTest(FoldCase):
    def test_strands(self):
        for strand in ((0, 1, 1), (0, -1, 1), (6, -3, 3), (5, 7, 10 ** 60), (10 ** 60, -1, 10 ** 60 + 1)):
            self.assertIs(is_strand(strand), True, strand)

    def test_wrong_numbers(self):
        for strand in (
            (0, 0, 1), (0, 1, 0), (5, 1, 0), (0, -1, 0), (0, 1, -1), (-1, 1, 5), (-1, 1, 1), (6, -3, 4),
            (10 ** 60, -1, 10 ** 60 + 2),
        ):
            self.assertIs(is_strand(strand), False, strand)

    def test_wrong_forms(self):
        for thing in (
            None, 3, True, "012", b"012", [], [0, 1, 1], (), (0, 1), (0, 1, 1, 1), (True, 1, 1), (0, True, 1),
            (0, 1, True), (0.0, 1, 1), (0, 1, 2.0), ("0", 1, 1), (0, None, 1), ((0, 1, 1),), {0: 1}, {0, 1, 2},
            ([0], 1, 1), object(),
        ):
            self.assertIs(is_strand(thing), False, thing)


class StrandTest(FoldCase):
    def test_members(self):
        self.assertEqual(members((6, -2, 4)), [6, 4, 2, 0])
        self.assertEqual(members((3, 5, 1)), [3])
        for begin, step, count in small_strands():
            told = [begin + step * u for u in range(count)]
            self.assertEqual(members((begin, step, count)), told)
            self.assertEqual(last_member((begin, step, count)), told[-1])
            self.assertIs(type(members((begin, step, count))), list)

    def test_places(self):
        for strand in small_strands():
            told = members(strand)
            for place, member in enumerate(told):
                self.assertEqual(member_at(strand, place), member)
            for index in range(-3, 25):
                self.assertEqual(place_in(strand, index), told.index(index) if index in told else None)
            for place in (-1, len(told), len(told) + 1, -len(told)):
                self.assert_raises_like(BadPlace(place), member_at, strand, place)

    def test_turned(self):
        self.assertEqual(strand_turned((2, 3, 4)), (11, -3, 4))
        for strand in small_strands():
            self.assertEqual(members(strand_turned(strand)), members(strand)[::-1])
            self.assertEqual(strand_turned(strand)[1], -strand[1])
            self.assertEqual(strand_turned(strand_turned(strand)), strand)

    def test_each(self):
        self.assertEqual(strand_each((6, -1, 5), 3, 1), (5, -3, 2))
        for strand, k in itertools.product(small_strands(), range(1, 5)):
            for i in range(8):
                told = strand_each(strand, k, i)
                self.assertEqual([] if told is None else members(told), members(strand)[i::k])
                self.assertEqual(told is None, i >= strand[2])
                if told is not None:
                    self.assertEqual(told[1], strand[1] * k)
                    self.assertTrue(is_strand(told))

    def test_cut(self):
        for strand in small_strands():
            size = strand[2]
            for begin in range(size + 1):
                for end in range(begin, size + 1):
                    told = strand_cut(strand, begin=begin, end=end)
                    self.assertEqual([] if told is None else members(told), members(strand)[begin:end])
                    self.assertEqual(told is None, begin == end)
                told = strand_cut(strand, begin=begin)
                self.assertEqual(told, strand_cut(strand, begin=begin, end=size))
            self.assertEqual(strand_cut(strand), strand)
            self.assertEqual(strand_cut(strand, end=1), (strand[0], strand[1], 1))

    def test_cut_beyond_the_ends(self):
        strand = (4, 2, 3)
        self.assertIsNone(strand_cut(strand, begin=3))
        self.assertIsNone(strand_cut(strand, begin=0, end=0))
        self.assert_raises_like(BadPlace(-1), strand_cut, strand, begin=-1)
        self.assert_raises_like(BadPlace(4), strand_cut, strand, begin=4)
        self.assert_raises_like(BadPlace(4), strand_cut, strand, end=4)
        self.assert_raises_like(BadPlace(-1), strand_cut, strand, end=-1)
        self.assert_raises_like(BadPlace(1), strand_cut, strand, begin=2, end=1)
        self.assert_raises_like(BadPlace(4), strand_cut, strand, begin=4, end=5)
        self.assert_raises_like(BadPlace(-2), strand_cut, strand, begin=-2, end=-3)

    def test_long_counts(self):
        strand = (7, 3, BIG)
        last = 7 + 3 * (BIG - 1)
        self.assertEqual(last_member(strand), last)
        self.assertEqual(member_at(strand, BIG - 1), last)
        self.assert_raises_like(BadPlace(BIG), member_at, strand, BIG)
        self.assertEqual(place_in(strand, last), BIG - 1)
        self.assertIsNone(place_in(strand, last + 3))
        self.assertIsNone(place_in(strand, last - 1))
        self.assertIsNone(place_in(strand, 4))
        self.assertEqual(strand_turned(strand), (last, -3, BIG))
        self.assertEqual(place_in(strand_turned(strand), 7), BIG - 1)
        self.assertEqual(strand_each(strand, 9, 8), (31, 27, (BIG - 8 + 8) // 9))
        self.assertEqual(strand_cut(strand, begin=BIG - 1), (last, 3, 1))
        self.assertEqual(strand_cut(strand, begin=2, end=BIG), (13, 3, BIG - 2))
        self.assertIsNone(strand_cut(strand, begin=BIG))
        self.assert_raises_like(BadPlace(BIG + 1), strand_cut, strand, begin=1, end=BIG + 1)


if __name__ == "__main__":
    unittest.main()
