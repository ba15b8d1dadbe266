"""Point 12: rows of strands."""

import itertools
import unittest

from tests.helpers import BIG, FoldCase
from unseenfolds.errors import BadPlace, BadStrand
from unseenfolds.strandrows import row_cut, row_each, row_index, row_places, row_size, row_turned, row_word
from unseenfolds.strandrows import strand_row

STRANDS = ((0, 1, 1), (6, -1, 5), (2, 2, 3), (9, -4, 2), (3, 1, 4))
ROWS = [row for many in range(4) for row in itertools.product(STRANDS, repeat=many)]


def listed(row):
    return [begin + step * u for begin, step, count in row for u in range(count)]


class StrandRowTest(FoldCase):
    def test_rows(self):
        self.assertEqual(strand_row([]), ())
        self.assertEqual(strand_row([(6, -1, 5), (2, 2, 3)]), ((6, -1, 5), (2, 2, 3)))
        self.assertEqual(strand_row(((0, 1, BIG),)), ((0, 1, BIG),))

    def test_the_first_wrong_entry_is_named(self):
        self.assert_raises_like(BadStrand(0), strand_row, [(0, 0, 1), None])
        self.assert_raises_like(BadStrand(0), strand_row, [[0, 1, 1]])
        self.assert_raises_like(BadStrand(1), strand_row, ((0, 1, 1), (2, -1, 4), (0, 1, 0)))
        self.assert_raises_like(BadStrand(2), strand_row, [(0, 1, 1), (0, 1, 1), (0, True, 1)])
        self.assert_raises_like(BadStrand(0), strand_row, [object()])

    def test_the_entries_stay_as_they_are(self):
        entries = [(0, 1, 1), (5, 2, 2)]
        row = strand_row(entries)
        entries.append((1, 1, 1))
        self.assertEqual(row, ((0, 1, 1), (5, 2, 2)))


class RowTest(FoldCase):
    def test_the_example(self):
        row = ((6, -1, 5), (2, 2, 3))
        self.assertEqual(row_each(row, 3, 1), ((5, -3, 2), (6, 6, 1)))
        self.assertEqual(row_cut(row, begin=4, end=7), ((2, -1, 1), (2, 2, 2)))
        self.assertEqual(row_places(row, 4), [2, 6])

    def test_size_and_word(self):
        for row in ROWS:
            self.assertEqual(row_size(row), len(listed(row)))
            self.assertEqual(row_word(row), tuple(listed(row)))

    def test_the_empty_row(self):
        self.assertEqual([row_size(()), row_word(()), row_places((), 0), row_turned(())], [0, (), [], ()])
        self.assertEqual([row_each((), 3, 2), row_cut(()), row_cut((), begin=0, end=0)], [(), (), ()])
        self.assert_raises_like(BadPlace(0), row_index, (), 0)
        self.assert_raises_like(BadPlace(1), row_cut, (), begin=1)
        self.assert_raises_like(BadPlace(1), row_cut, (), end=1)

    def test_single_indexes(self):
        for row in ROWS:
            word = listed(row)
            for place, index in enumerate(word):
                self.assertEqual(row_index(row, place), index)
            for place in (-1, len(word), len(word) + 5, -len(word) - 1):
                self.assert_raises_like(BadPlace(place), row_index, row, place)

    def test_places(self):
        for row in ROWS:
            word = listed(row)
            for index in range(-2, 12):
                self.assertEqual(row_places(row, index), [p for p, v in enumerate(word) if v == index])

    def test_turned(self):
        self.assertEqual(row_turned(((6, -1, 5), (2, 2, 3))), ((6, -2, 3), (2, 1, 5)))
        for row in ROWS:
            self.assertEqual(listed(row_turned(row)), listed(row)[::-1])
            self.assertEqual(len(row_turned(row)), len(row))

    def test_each(self):
        for row in ROWS:
            for k in range(1, 8):
                for i in range(k):
                    told = row_each(row, k, i)
                    self.assertEqual(listed(told), listed(row)[i::k])
                    self.assertEqual(strand_row(told), told)

    def test_each_leaves_out_what_is_empty_and_joins_nothing(self):
        self.assertEqual(row_each(((0, 1, 2), (2, 1, 1), (3, 1, 2)), 2, 1), ((1, 2, 1), (3, 2, 1)))
        self.assertEqual(row_each(((0, 1, 2), (2, 1, 2)), 1, 0), ((0, 1, 2), (2, 1, 2)))

    def test_cut(self):
        for row in ROWS:
            word = listed(row)
            for begin in range(len(word) + 1):
                for end in range(begin, len(word) + 1):
                    told = row_cut(row, begin=begin, end=end)
                    self.assertEqual(listed(told), word[begin:end])
                    self.assertEqual(strand_row(told), told)
                self.assertEqual(row_cut(row, begin=begin), row_cut(row, begin=begin, end=len(word)))
            self.assertEqual(row_cut(row), row)

    def test_cut_beyond_the_ends(self):
        row = ((6, -1, 5), (2, 2, 3))
        self.assertEqual(row_cut(row, begin=8), ())
        self.assertEqual(row_cut(row, end=0), ())
        self.assert_raises_like(BadPlace(-1), row_cut, row, begin=-1)
        self.assert_raises_like(BadPlace(9), row_cut, row, begin=9)
        self.assert_raises_like(BadPlace(9), row_cut, row, begin=9, end=8)
        self.assert_raises_like(BadPlace(9), row_cut, row, end=9)
        self.assert_raises_like(BadPlace(3), row_cut, row, begin=4, end=3)
        self.assert_raises_like(BadPlace(-1), row_cut, row, end=-1)
        self.assert_raises_like(BadPlace(-2), row_cut, row, begin=-2, end=-4)

    def test_long_counts(self):
        row = ((BIG - 1, -1, BIG), (0, 2, BIG), (5, 1, 1))
        self.assertEqual(row_size(row), 2 * BIG + 1)
        self.assertEqual(row_index(row, BIG - 1), 0)
        self.assertEqual(row_index(row, BIG + 3), 6)
        self.assertEqual(row_index(row, 2 * BIG), 5)
        self.assert_raises_like(BadPlace(2 * BIG + 1), row_index, row, 2 * BIG + 1)
        self.assertEqual(row_places(row, 5), [BIG - 6, 2 * BIG])
        self.assertEqual(row_places(row, 8), [BIG - 9, BIG + 4])
        self.assertEqual(row_places(row, -2), [])
        self.assertEqual(row_turned(row), ((5, -1, 1), (2 * BIG - 2, -2, BIG), (0, 1, BIG)))
        told = row_each(row, 2, 1)
        self.assertEqual(row_size(told), BIG)
        for place in (0, 1, BIG // 2, BIG - 1):
            self.assertEqual(row_index(told, place), row_index(row, 2 * place + 1))
        told = row_cut(row, begin=BIG - 1, end=2 * BIG + 1)
        self.assertEqual(told, ((0, -1, 1), (0, 2, BIG), (5, 1, 1)))
        self.assert_raises_like(BadPlace(2 * BIG + 2), row_cut, row, end=2 * BIG + 2)


if __name__ == "__main__":
    unittest.main()
