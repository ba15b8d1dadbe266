"""Points 73 to 75: fits and widest, tight scans, the spine and its arms."""

import itertools
import unittest

from tests.helpers import Draws, FoldCase, drawn_net
from tests.test_scans import doubled_net, drawn_nets
from unseenfolds.errors import BadHeight, BadKind, BadWidth, NoTight, TooLong
from unseenfolds.folds import chain
from unseenfolds.kinds import FULL_KINDS, KIND_NAMES
from unseenfolds.nets import Net
from unseenfolds.scans import is_scan, scan_nodes, slack
from unseenfolds.tight import arms, fits, spine, tight_at, tight_scan, widest
from unseenfolds.unders import is_tree, nodes_under


def shuffled(net, seed):
    """Returns the net with the parts of some merges the other way round, and the merges in another order."""
    draws = Draws(seed)
    left, made, pairs = list(net.steps()), {item: item for item in range(net.width)}, []
    while left:
        ready = [step for step in left if step[1] in made and step[2] in made]
        node, one, other = ready[draws.below(len(ready))]
        pair = (made[one], made[other])
        pairs.append(pair if draws.below(2) else pair[::-1])
        made[node] = net.width + len(pairs) - 1
        left = [step for step in left if step[0] != node]
    return Net(net.width, pairs)


def spine_by_rule(net):
    """The nodes of the spine and their arms, by the letters of the nodes, as point 75 says it."""
    last = scan_nodes("set", net)[-1]
    nodes = [node for node in nodes_under(net, last) if 0 in net.plain_of("set", node)]
    row = []
    for before, node in zip(nodes, nodes[1:]):
        parts = list(net.parts_of(node))
        parts.remove(before)
        row += parts
    return nodes, row


class NumberTest(FoldCase):
    def test_fits(self):
        for a in range(13):
            for b in range(15):
                told = 1 if a == 0 or b == 0 else fits(a - 1, b) + fits(a - 1, b - 1)
                self.assertEqual(fits(a, b), told)
                self.assertEqual(fits(a, b), sum(1 for some in itertools.product((0, 1), repeat=a) if sum(some) <= b))
        self.assertEqual([fits(0, 10 ** 60), fits(10 ** 60, 0), fits(12, 10 ** 60)], [1, 1, 4096])

    def test_widest(self):
        told = [1, 2]
        while len(told) < 20:
            told.append(told[-1] + told[-2] + 1)
        self.assertEqual([widest(d) for d in range(20)], told)
        for d in range(20):
            self.assertEqual(widest(d), 1 + sum(fits(t - 1, d - t + 1) for t in range(1, d + 1)))

    def test_bad_heights(self):
        for number in (-1, -10 ** 60):
            self.assert_raises_like(BadHeight(number), widest, number)
            self.assert_raises_like(BadHeight(number), fits, number, 3)
            self.assert_raises_like(BadHeight(number), fits, 3, number)
            self.assert_raises_like(BadHeight(number), fits, number, -2)
            self.assert_raises_like(BadHeight(number), fits, 0, number)


class TightScanTest(FoldCase):
    def check_tight(self, n, d):
        net = tight_scan(n, d)
        self.assertEqual([net.width, net.merge_count], [n, 2 * n - 2 - d])
        self.assertLessEqual(net.tallest, d)
        for kind in FULL_KINDS:
            values = set(net.plain_values(kind))
            self.assertTrue(all(tuple(range(i + 1)) in values for i in range(n)), (kind, n, d))
            self.assertEqual([tight_at(kind, net), slack(kind, net)], [d, 0])
        self.check_spine(net, d)

    def check_spine(self, net, d):
        nodes, row = spine_by_rule(net)
        letters = [net.plain_of("set", node)[-1] for node in nodes]
        self.assertEqual([spine(net), arms(net)], [tuple(letters), tuple(row)])
        self.assertEqual([len(nodes), len(row), net.height(nodes[-1])], [d + 1, d, d])
        prefixes = scan_nodes("set", net)
        self.assertEqual([net.height(node) for node in nodes], list(range(d + 1)))
        self.assertEqual([prefixes[letter] for letter in spine(net)], nodes)
        for before, node, arm in zip(nodes, nodes[1:], row):
            self.assertTrue(is_tree(net, arm))
            inner = set(net.plain_of("set", node)) - set(net.plain_of("set", before))
            self.assertEqual(set(net.plain_of("set", arm)), inner)

    def test_all_small_widths_and_heights(self):
        for n in range(1, 34):
            for d in range(n + 3):
                if d <= n - 1 and n <= widest(d):
                    self.check_tight(n, d)
                else:
                    self.assert_raises_like(NoTight(n), tight_scan, n, d)

    def test_the_widest_and_one_more(self):
        for d in range(11):
            n = min(widest(d), 200)
            self.check_tight(n, d)
            if widest(d) < 200:
                self.assert_raises_like(NoTight(n + 1), tight_scan, n + 1, d)
            # d = n - 1 is merging from the left.
            net = tight_scan(d + 1, d)
            self.assertEqual(net.pairs(), chain(d + 1, range(d + 1))[0].pairs())
            if d >= 1:
                self.assert_raises_like(NoTight(d), tight_scan, d, d)

    def test_heights_of_12_and_widths_of_200(self):
        for n, d in ((200, 12), (199, 11), (13, 12), (200, 199), (200, 60), (150, 12)):
            self.check_tight(n, d)

    def test_d_is_0(self):
        self.assertEqual(tight_scan(1, 0).pairs(), [])
        self.assert_raises_like(NoTight(2), tight_scan, 2, 0)
        self.assert_raises_like(NoTight(1), tight_scan, 1, 1)

    def test_errors_and_their_order(self):
        for width in (0, -1, -10 ** 60):
            self.assert_raises_like(BadWidth(width), tight_scan, width, -1)
            self.assert_raises_like(BadWidth(width), tight_scan, width, 0)
        for levels in (-1, -10 ** 60):
            self.assert_raises_like(BadHeight(levels), tight_scan, 1, levels)
            self.assert_raises_like(BadHeight(levels), tight_scan, 9, levels)


class TightAtTest(FoldCase):
    def test_by_rule(self):
        for net, kind in itertools.product(drawn_nets(300, 281, most_merges=7), KIND_NAMES):
            d = 2 * net.width - 2 - net.merge_count
            told = d if is_scan(kind, net) and max(net.heights()) <= d else None
            self.assertEqual(tight_at(kind, net), told)

    def test_there_is_none_beyond_the_bounds(self):
        for net, kind in itertools.product(drawn_nets(600, 283, most_width=3, most_merges=4), FULL_KINDS):
            d = tight_at(kind, net)
            if d is not None:
                self.assertTrue(d <= net.width - 1 and net.width <= widest(d))

    def test_examples(self):
        net = Net(4, [(0, 1), (4, 2), (2, 3), (4, 6)])
        self.assertEqual([tight_at("list", net), spine(net), arms(net)], [2, (0, 1, 3), (1, 6)])
        # One merge too many, one node too high.
        self.assertIsNone(tight_at("list", net.with_merge(0, 1)))
        self.assertIsNone(tight_at("list", Net(4, [(0, 1), (4, 2), (2, 3), (5, 3)])))
        self.assertEqual(tight_at("list", chain(4, range(4))[0]), 3)

    def test_outer_kinds(self):
        self.assertEqual([tight_at(kind, Net(3)) for kind in KIND_NAMES], [None] * 3 + [4, 4] + [None] * 3)
        self.assertEqual(tight_at("ends", Net(3, [(0, 1), (0, 2)])), 2)
        self.assertIsNone(tight_at("first", Net(1, [(0, 0)])))

    def test_one_item(self):
        for kind in KIND_NAMES:
            self.assertEqual(tight_at(kind, Net(1)), 0)
        self.assertEqual([spine(Net(1)), arms(Net(1))], [(0,), ()])
        self.assertEqual([spine(Net(1, [(0, 0)])), arms(Net(1, [(0, 0)]))], [None, None])

    def test_spines_of_other_nets(self):
        told = 0
        for n in range(2, 14):
            for d in range(n):
                if n > widest(d):
                    continue
                for seed in range(4):
                    net = shuffled(tight_scan(n, d), 100 * n + 10 * d + seed)
                    self.assertEqual(tight_at("set", net), d)
                    nodes, row = spine_by_rule(net)
                    letters = tuple(net.plain_of("set", node)[-1] for node in nodes)
                    self.assertEqual([spine(net), arms(net)], [letters, tuple(row)])
                    told += 1
        self.assertGreater(told, 100)

    def test_nets_that_are_not_tight(self):
        for net in drawn_nets(200, 293):
            if tight_at("set", net) is None:
                self.assertEqual([spine(net), arms(net)], [None, None])
        # Tight under set, not under list.
        net = Net(3, [(1, 0), (2, 3)])
        self.assertEqual([tight_at("list", net), tight_at("set", net), spine(net), arms(net)],
                         [None, 2, (0, 1, 2), (1, 2)])

    def test_words_of_401_letters(self):
        net = doubled_net(8, [(9, 8), (10, 5)])
        for kind in KIND_NAMES:
            self.assertIsNone(tight_at(kind, net))
            if kind in ("list", "bag"):
                self.assert_raises_like(TooLong(12), tight_at, kind, net.with_merge(11, 0))
            else:
                self.assertIsNone(tight_at(kind, net.with_merge(11, 0)))
        self.assertEqual([spine(net.with_merge(11, 0)), arms(net.with_merge(11, 0))], [None, None])

    def test_bad_kinds(self):
        for thing in ("sets", "", None, 3, ["set"], True):
            self.assert_raises_like(BadKind(thing), tight_at, thing, doubled_net(12))


class SearchTest(FoldCase):
    def test_no_small_net_is_tight_beyond_the_bounds(self):
        # All nets of width 3 with 2 or 3 merges, and of width 4 with 4 merges that are drawn.
        for many in (2, 3):
            rows = [()]
            for j in range(many):
                rows = [row + ((a, b),) for row in rows for a in range(3 + j) for b in range(3 + j)]
            found = {tight_at("set", Net(3, row)) for row in rows}
            self.assertEqual(found, {2: {None, 2}, 3: {None}}[many])

    def test_drawn_nets(self):
        draws = Draws(307)
        found = {tight_at("set", drawn_net(draws, 4, 4)) for _ in range(4000)}
        self.assertTrue(found <= {None, 2})


if __name__ == "__main__":
    unittest.main()
