"""Points 21 to 24 and 26: feeds together, ends and cells, holders, places and their orders."""

import itertools
import unittest

from tests.helpers import BIG, NESTED_TEXTS, TOLD_400, TOLD_401, FoldCase, few_feeds, small_feeds
from unseenfolds.cells import base_of, cells_at, checked_told, ends_at, holders, places_of, together, told_of
from unseenfolds.errors import BadIndex, BadLength, TooLarge
from unseenfolds.feeds import Feed
from unseenfolds.lines import numbers_of
from unseenfolds.strandrows import row_places
from unseenfolds.strands import is_strand, members, place_in


def cycle(*feeds):
    return together(*feeds).modulus * together(*feeds).stride


class TogetherTest(FoldCase):
    def test_one_feed(self):
        for f in few_feeds():
            self.assertEqual(together(f).fields(), numbers_of(f).fields())

    def test_several_feeds(self):
        p, q, r = Feed.read("each 4 1"), Feed.read("block 6 0; front 2"), Feed.read("each 3 0; rest 1")
        self.assertEqual(together(p, q).fields(), (12, 12, 4, 4, 20))
        self.assertEqual(together(p, q, r).fields(), (12, 12, 6, 12, 43))
        self.assertEqual(together(p, p).fields(), (4, 4, 2, 4, 14))

    def test_base_and_told(self):
        p = Feed.read("both (each 2 0) (each 2 1)")
        self.assertEqual(base_of(p, Feed.same()), 2 * (7 + 4) + 1)
        self.assertEqual(told_of(p, Feed.same()), 27)
        self.assertEqual([base_of(Feed.same()), told_of(Feed.same())], [4, 5])
        self.assertEqual(told_of(Feed.read("each 4 1"), Feed.read("block 6 0")), 12 * (12 + 8) + 1 + 12 * 4)

    def test_exactly_400_and_401(self):
        self.assertEqual(checked_told(Feed.read(TOLD_400), Feed.same()), 400)
        self.assertEqual(told_of(Feed.read(TOLD_401), Feed.same()), 401)
        self.assert_raises_like(TooLarge("told"), checked_told, Feed.read(TOLD_401), Feed.same())
        self.assertEqual(checked_told(Feed.same()), 5)
        self.assert_raises_like(TooLarge("told"), checked_told, Feed.read("each 9 0; each 9 0"))


class CellsTest(FoldCase):
    def test_the_example(self):
        p = Feed.read("both (each 2 0) (each 2 1)")
        self.assertEqual(ends_at(7, p), [0, 1, 5, 6])
        told = [(0, 2, 1), (1, 2, 1), (2, 2, 2), (3, 2, 1), (5, 2, 1), (6, 2, 1)]
        self.assertEqual(cells_at(7, p), told)

    def test_the_lengths_0_and_1(self):
        p = Feed.read("each 3 0")
        self.assertEqual([ends_at(0, p), cells_at(0, p)], [[], []])
        self.assertEqual([ends_at(1, p), cells_at(1, p)], [[0], [(0, 3, 1)]])
        self.assertEqual(ends_at(2, Feed.read("front 0")), [0, 1])

    def test_negative_lengths(self):
        self.assert_raises_like(BadLength(-1), ends_at, -1, Feed.same())
        self.assert_raises_like(BadLength(-5), cells_at, -5, Feed.same(), Feed.read("turn"))

    def test_ends(self):
        feeds = few_feeds()
        for f, g in zip(feeds, feeds[7:]):
            for length in (1, 2, 5, 9, 16):
                told = {0, length - 1}
                for strand in f.strands_at(length) + g.strands_at(length):
                    told |= {members(strand)[0], members(strand)[-1]}
                self.assertEqual(ends_at(length, f, g), sorted(told))

    def test_each_index_is_in_one_cell(self):
        feeds = few_feeds()
        for f, g in zip(feeds, feeds[5:]):
            for length in (0, 1, 3, 8, 25):
                cells = cells_at(length, f, g)
                told = [index for cell in cells for index in members(cell)]
                self.assertEqual(sorted(told), list(range(length)))
                self.assertEqual([cell[0] for cell in cells], sorted(cell[0] for cell in cells))
                self.assertTrue(all(is_strand(cell) and cell[1] == together(f, g).stride for cell in cells))

    def test_cells_as_point_22_says(self):
        for f in few_feeds():
            stride = together(f, Feed.same()).stride
            for length in (1, 4, 9, 30):
                ends = ends_at(length, f, Feed.same())
                told = []
                for number, end in enumerate(ends):
                    told.append((end, stride, 1))
                    if number + 1 < len(ends):
                        gap = ends[number + 1] - end
                        for r in range(1, min(stride, gap - 1) + 1):
                            told.append((end + r, stride, (gap - 1 - r) // stride + 1))
                self.assertEqual(cells_at(length, f, Feed.same()), told)

    def test_members_of_a_cell_have_the_same_holders(self):
        for f in small_feeds():
            for length in (5, 13):
                row = f.strands_at(length)
                for cell in cells_at(length, f, Feed.same()):
                    told = [holders(row, index) for index in members(cell)]
                    self.assertTrue(all(entry == told[0] for entry in told))

    def test_long_lengths(self):
        for text in NESTED_TEXTS:
            f = Feed.read(text)
            cells = cells_at(BIG, f, Feed.same())
            self.assertEqual(sum(cell[2] for cell in cells), BIG)
            ends = ends_at(BIG, f, Feed.same())
            self.assertEqual([ends[0], ends[-1]], [0, BIG - 1])
            self.assertEqual(ends, sorted(set(ends)))

    def test_a_stride_of_1000(self):
        f = Feed.read("each 8 3; each 5 1; each 5 2; each 5 0")
        self.assertEqual(together(f).stride, 1000)
        cells = cells_at(BIG, f, Feed.read("turn; but 5"))
        self.assertEqual(sum(cell[2] for cell in cells), BIG)
        self.assertGreater(len(cells), 1000)


class CarriedOverTest(FoldCase):
    def test_ends_and_cells(self):
        for f in few_feeds():
            both = (f, Feed.same())
            base, stride = base_of(*both), together(*both).stride
            for length in (base, base + 1):
                for turns in (1, 2, BIG):
                    later = length + turns * cycle(*both)
                    self.check_ends(ends_at(length, *both), ends_at(later, *both), stride)
                    self.check_cells(f, length, later)

    def check_ends(self, ends, moved, stride):
        self.assertEqual(len(ends), len(moved))
        self.assertTrue(all((one - other) % stride == 0 for one, other in zip(ends, moved)))
        for gap, wide in zip([b - a for a, b in zip(ends, ends[1:])], [b - a for a, b in zip(moved, moved[1:])]):
            self.assertTrue(gap == wide or (gap > 2 * stride and wide > 2 * stride))

    def check_cells(self, f, length, later):
        cells, moved = cells_at(length, f, Feed.same()), cells_at(later, f, Feed.same())
        self.assertEqual(len(cells), len(moved))
        row, later_row = f.strands_at(length), f.strands_at(later)
        for one, other in zip(cells, moved):
            self.assertEqual(holders(row, one[0]), holders(later_row, other[0]))
            for number in holders(row, one[0]):
                self.assertEqual(row[number][1], later_row[number][1])
            self.assertTrue(one[2] == other[2] or min(one[2], other[2]) >= 2)


class HoldersTest(FoldCase):
    def test_holders(self):
        row = ((6, -1, 5), (2, 2, 3), (4, 9, 1))
        told = {-1: [], 0: [], 2: [0, 1], 3: [0], 4: [0, 1, 2], 6: [0, 1], 7: [], 8: []}
        for index, numbers in told.items():
            self.assertEqual(holders(row, index), numbers)
        self.assertEqual(holders((), 0), [])
        self.assertEqual(holders(((0, 1, BIG), (BIG, -1, 2)), BIG - 1), [0, 1])

    def test_as_many_as_places(self):
        for f in few_feeds():
            row = f.strands_at(9)
            for index in range(9):
                self.assertEqual(len(holders(row, index)), f.word_at(9).count(index))


class PlacesTest(FoldCase):
    def test_places(self):
        for f in few_feeds():
            for length in (1, 2, 7, 12):
                word = f.word_at(length)
                for index in range(length):
                    told = [place for place, entry in enumerate(word) if entry == index]
                    self.assertEqual(places_of(f, length, index), told)

    def test_errors(self):
        f = Feed.read("turn")
        self.assert_raises_like(BadLength(-1), places_of, f, -1, 0)
        self.assert_raises_like(BadLength(-1), places_of, f, -1, -1)
        for length, index in ((0, 0), (3, 3), (3, -1), (3, 100), (0, -1)):
            self.assert_raises_like(BadIndex(index), places_of, f, length, index)

    def test_long_lengths(self):
        f = Feed.read("both (turn) (each 2 0)")
        self.assertEqual(places_of(f, BIG, 10), [BIG - 11, BIG + 5])
        self.assertEqual(places_of(f, BIG, BIG - 1), [0] if BIG % 2 == 0 else [0, BIG + BIG // 2])
        self.assert_raises_like(BadIndex(BIG), places_of, f, BIG, BIG)

    def test_orders_by_holders(self):
        for f in few_feeds():
            row = f.strands_at(8)
            present = [index for index in range(8) if holders(row, index)]
            for v, w in itertools.combinations(present, 2):
                for which in (0, -1):
                    mine, theirs = holders(row, v)[which], holders(row, w)[which]
                    told = mine < theirs
                    if mine == theirs:
                        told = place_in(row[mine], v) < place_in(row[mine], w)
                    self.assertEqual(told, row_places(row, v)[which] < row_places(row, w)[which])


if __name__ == "__main__":
    unittest.main()
