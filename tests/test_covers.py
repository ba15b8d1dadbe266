"""Points 46 and 47 under heads, tails and set: covers, the places that no span covers, and places apart."""

import unittest

from tests.helpers import drawn_spans, subsets
from unseenfolds.covers import cover_distances, cover_distances_back, cover_points, uncovered


def least_cover(spans, places):
    """The least number of spans that together cover all these places, or None."""
    for some in subsets([(a, b) for _, a, b in spans]):
        if all(any(a <= place < b for a, b in some) for place in places):
            return len(some)
    return None


def apart(spans, places):
    """Whether no span covers two of the places."""
    return all(sum(a <= place < b for place in places) < 2 for _, a, b in spans)


class CoverTest(unittest.TestCase):
    def test_examples(self):
        spans = [(1, 1, 2), (3, 3, 4), (4, 0, 2), (7, 1, 3)]
        self.assertEqual(cover_distances(spans, 4), [0, 1, 1, 2, 3])
        self.assertEqual(cover_distances_back(spans, 4), [3, 2, 2, 1, 0])
        self.assertEqual([uncovered(spans, 4), cover_points(spans, 4)], [[], [0, 2, 3]])
        self.assertEqual([uncovered(spans[2:], 4), cover_points(spans[2:], 4)], [[3], None])
        self.assertEqual(cover_distances(spans[2:], 4), [0, 1, 1, 2, None])

    def test_no_span(self):
        self.assertEqual([cover_distances([], 2), cover_distances_back([], 2)], [[0, None, None], [None, None, 0]])
        self.assertEqual([uncovered([], 2), cover_points([], 2)], [[0, 1], None])
        self.assertEqual(cover_distances([(5, 1, 2)], 3), [0, None, None, None])
        self.assertEqual(cover_distances_back([(5, 1, 2)], 3), [None, None, None, 0])
        self.assertEqual(uncovered([(5, 1, 2)], 3), [0, 2])

    def test_against_all_sets_of_spans(self):
        for spans, end in drawn_spans(80, 4):
            spans = spans[:8]
            front = [least_cover(spans, range(place)) for place in range(end + 1)]
            back = [least_cover(spans, range(place, end)) for place in range(end + 1)]
            self.assertEqual([cover_distances(spans, end), cover_distances_back(spans, end)], [front, back])
            bare = [place for place in range(end) if not any(a <= place < b for _, a, b in spans)]
            self.assertEqual(uncovered(spans, end), bare)

    def test_points_against_all_sets_of_places(self):
        for spans, end in drawn_spans(200, 6):
            points = cover_points(spans, end)
            if uncovered(spans, end):
                self.assertIsNone(points)
                continue
            most = max(len(places) for places in subsets(range(end)) if apart(spans, places))
            self.assertEqual(len(points), most)
            self.assertTrue(apart(spans, points))
            self.assertEqual(points, sorted(set(points)))
            self.assertTrue(set(points) <= set(range(end)))
            self.assertEqual(cover_distances(spans, end)[end], most)
            self.assertEqual(cover_distances_back(spans, end)[0], most)

    def test_many_spans(self):
        spans = [(20 * j + i, j, min(60, j + 1 + i % 7)) for j in range(60) for i in range(18)]
        self.assertEqual([cover_distances(spans, 60)[60], cover_distances_back(spans, 60)[0]], [9, 9])
        self.assertEqual(len(cover_points(spans, 60)), 9)

    def test_arguments_stay_and_lists_are_new(self):
        spans = [(3, 1, 2), (1, 0, 1)]
        for call in (cover_distances, cover_distances_back, cover_points):
            call(spans, 2).clear()
            self.assertNotEqual(call(spans, 2), [])
        uncovered(spans, 3).clear()
        self.assertEqual([uncovered(spans, 3), spans], [[2], [(3, 1, 2), (1, 0, 1)]])


if __name__ == "__main__":
    unittest.main()
