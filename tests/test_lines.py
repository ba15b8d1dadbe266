"""Point 20: the numbers of a feed, and the straight lines of its strands from settled on."""

import unittest
from fractions import Fraction

from tests.helpers import BIG, FoldCase, few_feeds, small_feeds
from unseenfolds.errors import BadLength
from unseenfolds.feeds import Feed
from unseenfolds.lines import Numbers, StrandLine, numbers_of, strand_lines
from unseenfolds.strandrows import row_size, row_starts
from unseenfolds.strands import last_member


def numbers_by_rule(text):
    return numbers_of(Feed.read(text)).fields()



class NumbersTest(FoldCase):
    def test_defaults_and_fields(self):
        self.assertEqual(Numbers().fields(), (1, 1, 0, 1, 1))
        numbers = Numbers(divisor=2, modulus=6, spread=5, stride=3, reach=40)
        self.assertEqual(numbers.fields(), (2, 6, 5, 3, 40))
        self.assertEqual([numbers.divisor, numbers.modulus, numbers.spread, numbers.stride, numbers.reach],
                         [2, 6, 5, 3, 40])
        self.assertEqual(Numbers(reach=0).fields(), (1, 1, 0, 1, 0))
        self.assertRaises(TypeError, Numbers, 1)

    def test_settled(self):
        self.assertEqual(Numbers().settled, 1)
        self.assertEqual(Numbers(divisor=6, spread=7).settled, 43)

    def test_both_numbers(self):
        one = Numbers(divisor=4, modulus=8, spread=3, stride=2, reach=9)
        other = Numbers(divisor=6, modulus=12, spread=5, stride=3, reach=20)
        self.assertEqual((one | other).fields(), (12, 24, 8, 6, 29))
        self.assertEqual(one.fields(), (4, 8, 3, 2, 9))
        self.assertIsInstance(one | other, Numbers)
        self.assertRaises(TypeError, lambda: one | 3)


class NumbersOfTest(FoldCase):
    def test_single_parts(self):
        told = {
            "same": (1, 1, 0, 1, 1), "turn": (1, 1, 0, 1, 1), "front 3": (1, 1, 3, 1, 9), "rest 0": (1, 1, 0, 1, 3),
            "last 99": (1, 1, 99, 1, 201), "but 1": (1, 1, 1, 1, 5), "each 3 2": (3, 3, 1, 3, 5),
            "each 1 0": (1, 1, 0, 1, 1), "each 9 0": (9, 9, 1, 9, 17), "block 4 1": (4, 4, 1, 1, 5),
            "block 1 0": (1, 1, 1, 1, 5),
        }
        for text, fields in told.items():
            self.assertEqual(numbers_by_rule(text), fields, text)

    def test_parts_in_a_row(self):
        told = {
            "turn; same": (1, 1, 0, 1, 1), "front 3; rest 2": (1, 1, 5, 1, 21),
            "each 2 0; each 3 1": (6, 6, 1, 6, 11), "each 2 1; front 3": (2, 2, 4, 2, 23),
            "front 3; each 2 0": (1 * 2, 2, 2, 2, 11), "front 7; each 3 0": (3, 3, 3, 3, 21),
            "front 5; each 4 0": (4, 4, 2, 4, 19), "each 2 0; block 3 1": (6, 6, 2, 2, 15),
            "block 3 1; each 2 0": (6, 6, 1, 2, 7), "block 2 1; block 2 0": (4, 4, 2, 1, 11),
            "block 2 1; block 3 0": (6, 6, 2, 1, 11), "block 4 0; both (each 2 0) (each 3 0)": (24, 24, 2, 6, 16),
        }
        for text, fields in told.items():
            self.assertEqual(numbers_by_rule(text), fields, text)

    def test_arms(self):
        told = {
            "both (same) (turn)": (1, 1, 0, 1, 2), "both (front 1) (same)": (1, 1, 1, 1, 6),
            "both (each 2 0) (each 3 0)": (6, 6, 2, 6, 8), "both (each 4 0) (block 6 0)": (12, 12, 2, 4, 12),
            "front 2; both (same) (rest 1)": (1, 1, 5, 1, 22),
            "each 2 0; both (same) (each 2 0)": (4, 4, 2, 4, 10),
        }
        for text, fields in told.items():
            self.assertEqual(numbers_by_rule(text), fields, text)

    def test_the_divisor_divides_the_modulus(self):
        for f in small_feeds():
            numbers = numbers_of(f)
            self.assertEqual(numbers.modulus % numbers.divisor, 0)


class LinesTest(FoldCase):
    def test_the_example(self):
        f = Feed.read("block 2 1; turn")
        line = strand_lines(f, 3)[0]
        self.assertEqual([numbers_of(f).fields(), numbers_of(f).settled], [(2, 2, 1, 1, 5), 3])
        self.assertEqual([line.strand_at(0), line.strand_at(10)], [(2, -1, 2), (22, -1, 12)])

    def test_attributes(self):
        lines = strand_lines(Feed.read("both (each 2 1) (rest 3; turn)"), 11)
        first, second = lines
        self.assertIsInstance(first, StrandLine)
        self.assertEqual([first.begin, first.step, first.count, first.place], [1, 2, 5, 0])
        self.assertEqual([first.begin_move, first.count_move, first.place_move], [0, 1, 0])
        self.assertEqual([second.begin, second.step, second.count, second.place], [10, -1, 8, 5])
        self.assertEqual([second.begin_move, second.count_move, second.place_move], [2, 2, 1])
        self.assertEqual([second.strand_at(3), second.place_at(3)], [(16, -1, 14), 8])

    def test_lengths_below_settled(self):
        f = Feed.read("front 5; each 2 0")
        settled = numbers_of(f).settled
        self.assertEqual(settled, 7)
        for length in (settled - 1, 1, 0, -1):
            self.assert_raises_like(BadLength(length), strand_lines, f, length)
        self.assertEqual(len(strand_lines(f, settled)), 1)
        self.assert_raises_like(BadLength(0), strand_lines, Feed.same(), 0)
        self.assertEqual(strand_lines(Feed.same(), 1)[0].strand_at(5), (0, 1, 6))

    def test_lines_tell_the_rows(self):
        for f in small_feeds():
            numbers = numbers_of(f)
            for length in (numbers.settled, numbers.settled + 1, numbers.settled + numbers.modulus + 1):
                lines = strand_lines(f, length)
                for turn in (0, 1, 2, 5, BIG):
                    row = f.strands_at(length + numbers.modulus * turn)
                    self.assertEqual(tuple(line.strand_at(turn) for line in lines), row, (f.text, length, turn))
                    self.assertEqual([line.place_at(turn) for line in lines], row_starts(row))

    def test_moves_are_multiples_and_constants_lie_near(self):
        for f in small_feeds():
            numbers = numbers_of(f)
            part = numbers.modulus // numbers.divisor
            for length in range(numbers.settled, numbers.settled + 3):
                lines = strand_lines(f, length)
                ends, places = [Fraction(0), Fraction(length - 1) - length], [Fraction(0)]
                for line in lines:
                    last_move = line.begin_move + line.step * line.count_move
                    self.assertEqual([line.begin_move % part, last_move % part], [0, 0])
                    for move, value in ((line.begin_move, line.begin), (last_move, last_member(line.strand_at(0)))):
                        ends.append(value - Fraction(move, numbers.modulus) * length)
                    places.append(line.place - Fraction(line.place_move, numbers.modulus) * length)
                later = f.size_at(length + numbers.modulus)
                size = row_size(f.strands_at(length))
                places.append(size - Fraction(later - size, numbers.modulus) * length)
                self.assertLessEqual(max(ends) - min(ends), numbers.reach)
                self.assertLessEqual(max(places) - min(places), numbers.spread)

    def test_long_lengths(self):
        for f in few_feeds()[::4]:
            numbers = numbers_of(f)
            lines = strand_lines(f, numbers.settled + BIG)
            later = f.strands_at(numbers.settled + BIG + 3 * numbers.modulus)
            self.assertEqual(tuple(line.strand_at(3) for line in lines), later)

    def test_each_list_is_new(self):
        f = Feed.same()
        strand_lines(f, 4).clear()
        self.assertEqual(len(strand_lines(f, 4)), 1)


if __name__ == "__main__":
    unittest.main()
