"""Points 46 and 47 under list: the distances d and e, and the places reached."""

import itertools
import unittest

from tests.helpers import drawn_spans
from unseenfolds.ways import distances, distances_back, reached


def ways_between(spans, begin, end):
    """The lists of the nodes of all ways from one place to another."""
    if begin == end:
        return [[]]
    return [[node] + way for node, a, b in spans if a == begin and b <= end for way in ways_between(spans, b, end)]


class DistanceTest(unittest.TestCase):
    def test_examples(self):
        spans = [(7, 1, 3), (4, 0, 2), (3, 3, 4), (1, 1, 2), (9, 0, 1)]
        self.assertEqual([distances(spans, 4), distances_back(spans, 4), reached(spans, 4)],
                         [[0, 1, 1, 2, 3], [3, 2, None, 1, 0], [0, 1, 2, 3, 4]])
        spans = [(1, 1, 2), (3, 3, 4), (4, 0, 2), (7, 1, 3)]
        self.assertEqual([distances(spans, 4), distances_back(spans, 4), reached(spans, 4)],
                         [[0, None, 1, None, None], [None, 2, None, 1, 0], [0, 2]])

    def test_no_span(self):
        self.assertEqual([distances([], 3), distances_back([], 3)], [[0, None, None, None], [None, None, None, 0]])
        self.assertEqual(reached([], 1), [0])
        self.assertEqual([distances([(0, 1, 2)], 2), reached([(0, 1, 2)], 2)], [[0, None, None], [0]])

    def test_against_all_ways(self):
        for spans, end in drawn_spans(200, 1):
            front = [min(map(len, ways_between(spans, 0, place)), default=None) for place in range(end + 1)]
            back = [min(map(len, ways_between(spans, place, end)), default=None) for place in range(end + 1)]
            self.assertEqual([distances(spans, end), distances_back(spans, end)], [front, back])
            self.assertEqual(reached(spans, end), [place for place in range(end + 1) if front[place] is not None])
            self.assertEqual(front[end], back[0])

    def test_the_order_of_the_spans_does_not_matter(self):
        spans = [(5, 0, 2), (2, 2, 3), (8, 0, 1), (1, 1, 2)]
        for row in itertools.permutations(spans):
            self.assertEqual([distances(list(row), 3), distances_back(list(row), 3)], [[0, 1, 1, 2], [2, 2, 1, 0]])

    def test_only_one_list_is_closed(self):
        for spans, end in drawn_spans(60, 2):
            if end > 4:
                continue
            closed = [row for row in itertools.product((None, 0, 1, 2, 3, 4), repeat=end) if is_closed(spans, (0,) + row)]
            self.assertEqual(closed, [tuple(distances(spans, end)[1:])])

    def test_many_spans(self):
        spans = [(20 * j + i, j, min(60, j + 1 + i % 7)) for j in range(60) for i in range(18)]
        self.assertEqual([distances(spans, 60)[60], distances_back(spans, 60)[0], len(reached(spans, 60))], [9, 9, 61])

    def test_arguments_stay_and_lists_are_new(self):
        spans = [(3, 1, 2), (1, 0, 1)]
        for call in (distances, distances_back, reached):
            call(spans, 2).clear()
            self.assertEqual(len(call(spans, 2)), 3)
        self.assertEqual(spans, [(3, 1, 2), (1, 0, 1)])


def is_closed(spans, d):
    """Whether a list of numbers is closed, as point 47 says it."""
    for _, a, b in spans:
        if d[a] is not None and (d[b] is None or d[b] > d[a] + 1):
            return False
    return all(d[c] is None or any(b == c and d[a] is not None and d[a] == d[c] - 1 for _, a, b in spans)
               for c in range(1, len(d)))


if __name__ == "__main__":
    unittest.main()
