"""Points 52 and 53: as many ways, or covers, as there can be if no node is in two of them."""

import unittest

from tests.helpers import drawn_spans, subsets
from unseenfolds.flows import Flow, disjoint_covers


def least_cut(spans, end):
    """The least number of spans that lead out of a list of places that has 0 and not the end."""
    return min(sum(a in places and b not in places for _, a, b in spans)
               for places in ({0, *some} for some in subsets(range(1, end))))


class FlowTest(unittest.TestCase):
    def check_flow(self, spans, end):
        flow = Flow(spans, end)
        ways, table = flow.ways(), {node: (a, b) for node, a, b in spans}
        used = [node for way in ways for node in way]
        self.assertEqual(len(used), len(set(used)))
        for way in ways:
            self.assertIsInstance(way, tuple)
            places = [0] + [table[node][1] for node in way]
            self.assertEqual([table[node][0] for node in way], places[:-1])
            self.assertEqual(places[-1], end)
        places = flow.places()
        self.assertEqual(places, sorted(set(places)))
        self.assertTrue(0 in places and end not in places)
        out = sorted(node for node, a, b in spans if a in places and b not in places)
        self.assertEqual(flow.cut(), out)
        self.assertEqual(len(out), len(ways))
        return len(ways)

    def test_drawn_spans(self):
        for spans, end in drawn_spans(300, 8):
            self.assertEqual(self.check_flow(spans, end), least_cut(spans, end))

    def test_a_way_that_has_to_turn(self):
        # The shortest way, 1 then 2, stands against two ways that share no span.
        spans = [(0, 0, 1), (1, 0, 2), (2, 2, 5), (3, 1, 2), (4, 1, 3), (5, 2, 4), (6, 3, 5), (7, 4, 5)]
        self.assertEqual(self.check_flow(spans, 5), 2)
        spans = [(10, 0, 2), (11, 0, 1), (12, 2, 3), (13, 1, 3), (14, 1, 2)]
        self.assertEqual(self.check_flow(spans, 3), 2)

    def test_no_way(self):
        flow = Flow([(4, 1, 3), (2, 0, 2)], 3)
        self.assertEqual([flow.ways(), flow.places(), flow.cut()], [[], [0, 2], []])
        flow = Flow([], 2)
        self.assertEqual([flow.ways(), flow.places(), flow.cut()], [[], [0], []])

    def test_equal_spans(self):
        spans = [(node, 0, 1) for node in range(5)] + [(node, 1, 2) for node in range(10, 13)]
        flow = Flow(spans, 2)
        self.assertEqual([len(flow.ways()), flow.places(), flow.cut()], [3, [0, 1], [10, 11, 12]])
        self.check_flow(spans, 2)

    def test_many_spans(self):
        spans = [(20 * j + i, j, min(60, j + 1 + i % 7)) for j in range(60) for i in range(18)]
        self.assertEqual(self.check_flow(spans, 60), 18)

    def test_lists_handed_in_and_out(self):
        spans = [(4, 0, 1), (2, 1, 2), (7, 0, 2)]
        flow = Flow(spans, 2)
        told = [flow.ways(), flow.places(), flow.cut()]
        for row in (flow.ways(), flow.places(), flow.cut(), spans):
            row.clear()
        self.assertEqual([flow.ways(), flow.places(), flow.cut()], told)
        self.assertEqual(sorted(told[0]), [(4, 2), (7,)])


class DisjointCoversTest(unittest.TestCase):
    def check_covers(self, spans, end):
        covers, table = disjoint_covers(spans, end), {node: (a, b) for node, a, b in spans}
        used = [node for cover in covers for node in cover]
        self.assertEqual(len(used), len(set(used)))
        for cover in covers:
            self.assertIsInstance(cover, tuple)
            pairs = [table[node] for node in cover]
            self.assertEqual({place for a, b in pairs for place in range(a, b)}, set(range(end)))
            for (a, b), (c, d) in zip(pairs, pairs[1:]):
                self.assertTrue(a <= c and b < d)
        return len(covers)

    def test_drawn_spans(self):
        for spans, end in drawn_spans(500, 9):
            # More covers than the spans over one place there cannot be.
            least = min(sum(a <= place < b for _, a, b in spans) for place in range(end))
            self.assertEqual(self.check_covers(spans, end), least)

    def test_begins_do_not_fall(self):
        spans = [(0, 0, 1), (1, 0, 4), (2, 1, 3), (3, 0, 2), (4, 2, 4), (5, 0, 4), (6, 1, 2), (7, 0, 3), (8, 3, 4)]
        self.assertEqual(self.check_covers(spans, 4), 4)

    def test_no_cover(self):
        self.assertEqual([disjoint_covers([], 1), disjoint_covers([(0, 0, 2)], 3)], [[], []])
        self.assertEqual(disjoint_covers([(0, 0, 2)], 2), [(0,)])

    def test_many_spans(self):
        spans = [(20 * j + i, j, min(60, j + 1 + i % 7)) for j in range(60) for i in range(18)]
        self.assertEqual(self.check_covers(spans, 60), 18)

    def test_the_spans_stay(self):
        spans = [(4, 0, 1), (2, 1, 2), (7, 0, 2)]
        disjoint_covers(spans, 2).clear()
        self.assertEqual(spans, [(4, 0, 1), (2, 1, 2), (7, 0, 2)])


if __name__ == "__main__":
    unittest.main()
