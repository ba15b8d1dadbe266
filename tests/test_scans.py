"""Points 71 and 72: prefix nodes, scans and slack."""

import itertools
import unittest

from tests.helpers import Draws, FoldCase, drawn_net
from unseenfolds.errors import BadKind, BadWidth, NotScan, TooLong
from unseenfolds.folds import chain, halves
from unseenfolds.kinds import FULL_KINDS, KIND_NAMES, alike
from unseenfolds.nets import Net
from unseenfolds.scans import is_scan, outer_scan, prefix_nodes, scan_nodes, slack

OUTER_KINDS = [kind for kind in KIND_NAMES if kind not in FULL_KINDS]


def drawn_nets(many, seed, *, most_width=4, most_merges=6):
    draws = Draws(seed)
    return [drawn_net(draws, 1 + draws.below(most_width), draws.below(most_merges + 1)) for _ in range(many)]


def doubled_net(levels, more=()):
    """Returns a net of two items whose node of number 2 + j, for j below levels, has a word of 2 ** (j + 1) letters."""
    return Net(2, [(0, 1)] + [(j, j) for j in range(2, 1 + levels)] + list(more))


class PrefixTest(FoldCase):
    def test_by_rule(self):
        for net, kind in itertools.product(drawn_nets(120, 271), KIND_NAMES):
            told = []
            for i in range(net.width):
                nodes = [node for node in range(net.size) if alike(kind, net.word(node), range(i + 1))]
                told.append(min(nodes, default=None))
            self.assertEqual(prefix_nodes(kind, net), told)
            self.assertIs(is_scan(kind, net), None not in told)
            if None in told:
                for call in (scan_nodes, slack):
                    self.assert_raises_like(NotScan(told.index(None)), call, kind, net)
                continue
            self.assertEqual(scan_nodes(kind, net), tuple(told))
            heights = [net.height(node) for node in range(net.size) if alike(kind, net.word(node), range(net.width))]
            self.assertEqual(slack(kind, net), net.merge_count + min(heights) - 2 * net.width + 2)

    def test_one_item(self):
        for kind in KIND_NAMES:
            told = [prefix_nodes(kind, Net(1)), scan_nodes(kind, Net(1)), slack(kind, Net(1))]
            self.assertEqual(told, [[0], (0,), 0])
            self.assertIs(is_scan(kind, Net(1)), True)
            idle = Net(1, [(0, 0)])
            self.assertEqual(slack(kind, idle), 1)

    def test_without_merges(self):
        for n in (2, 3, 9):
            for kind in KIND_NAMES:
                told = {"first": [0] * n, "last": list(range(n))}.get(kind, [0] + [None] * (n - 1))
                self.assertEqual(prefix_nodes(kind, Net(n)), told)
                if kind in ("first", "last"):
                    self.assertEqual(slack(kind, Net(n)), 2 - 2 * n)
                else:
                    self.assert_raises_like(NotScan(1), scan_nodes, kind, Net(n))

    def test_the_least_node_and_the_least_height(self):
        net = Net(3, [(0, 1), (3, 2), (0, 1), (1, 2), (0, 6), (5, 2)])
        for kind in ("list", "bag", "set", "heads", "tails"):
            self.assertEqual(scan_nodes(kind, net), (0, 3, 4))
            self.assertEqual(slack(kind, net), 6 + 2 - 4)
        net = Net(4, [(0, 1), (4, 2), (5, 3), (2, 3), (4, 7)])
        self.assertEqual([scan_nodes("list", net), slack("list", net)], [(0, 4, 5, 6), 5 + 2 - 6])

    def test_merging_from_the_left_and_by_halves(self):
        for n in range(1, 30):
            net, outcome = chain(n, range(n))
            for kind in FULL_KINDS:
                self.assertEqual(scan_nodes(kind, net), (0,) + tuple(range(n, 2 * n - 1)))
                self.assertEqual(slack(kind, net), 0)
            self.assertEqual(outcome, net.size - 1)
            net, _ = halves(n, range(n))
            for kind in FULL_KINDS:
                self.assertIs(is_scan(kind, net), n < 4)

    def test_lower_bounds(self):
        for net, kind in itertools.product(drawn_nets(300, 277, most_width=3, most_merges=5), KIND_NAMES):
            if is_scan(kind, net):
                if kind not in ("first", "last"):
                    self.assertGreaterEqual(net.merge_count, net.width - 1)
                if kind in FULL_KINDS:
                    self.assertGreaterEqual(slack(kind, net), 0)
            if kind in ("first", "last"):
                self.assertIs(is_scan(kind, net), True)

    def test_widths_of_200(self):
        net, _ = chain(200, range(200))
        for kind in KIND_NAMES:
            self.assertIs(is_scan(kind, net), True)
            # Under first item 0, under last item 199 is alike to the last prefix.
            self.assertEqual(slack(kind, net), -199 if kind in ("first", "last") else 0)

    def test_each_list_is_new(self):
        net = chain(3, range(3))[0]
        prefix_nodes("set", net).clear()
        self.assertEqual(prefix_nodes("set", net), [0, 3, 4])


class OuterTest(FoldCase):
    def test_outer_scans(self):
        for n in range(1, 30):
            net = outer_scan(n)
            self.assertEqual([net.width, net.pairs()], [n, [(0, i) for i in range(1, n)]])
            for kind in KIND_NAMES:
                self.assertIs(is_scan(kind, net), kind in OUTER_KINDS or n < 3)
            if n >= 2:
                self.assertEqual(scan_nodes("ends", net), (0,) + tuple(range(n, 2 * n - 1)))
                self.assertEqual(slack("ends", net), (n - 1) + 1 - (2 * n - 2))

    def test_bad_widths(self):
        for width in (0, -1, -10 ** 60):
            self.assert_raises_like(BadWidth(width), outer_scan, width)


class ErrorTest(FoldCase):
    def test_words_of_400_and_of_401_letters(self):
        # Node 9 has 256 letters, node 8 has 128, node 5 has 16: 400 letters together.
        net = doubled_net(8, [(9, 8), (10, 5)])
        self.assertEqual(net.word_length(11), 400)
        longer = net.with_merge(11, 0)
        for kind in KIND_NAMES:
            self.assertEqual(prefix_nodes(kind, net), [0, {"first": 0, "last": 1}.get(kind, 2)])
            for call in (prefix_nodes, is_scan, scan_nodes, slack):
                call(kind, net)
                if kind in ("list", "bag"):
                    self.assert_raises_like(TooLong(12), call, kind, longer)
                    # A node that is too long is told, not a prefix without a node.
                    self.assert_raises_like(TooLong(13), call, kind, Net(3, [(a + (a > 1), b + (b > 1)) for a, b in
                                                                             longer.pairs()]))
                else:
                    call(kind, longer)

    def test_bad_kinds(self):
        for thing in ("sets", "", None, 3, ["set"], True):
            for call in (prefix_nodes, is_scan, scan_nodes, slack):
                self.assert_raises_like(BadKind(thing), call, thing, doubled_net(12))


if __name__ == "__main__":
    unittest.main()
