"""Points 79 and 80: windows, window nets with as few merges as can be, low window nets."""

import itertools
import unittest

from tests.helpers import FoldCase
from tests.test_scans import doubled_net, drawn_nets
from unseenfolds.errors import BadKind, BadWidth, BadWindow, NotWindows, TooLong
from unseenfolds.kinds import FULL_KINDS, KIND_NAMES, alike
from unseenfolds.nets import Net
from unseenfolds.windows import (is_window_net, least_low_windows, least_windows, low_window_net, window_heights,
                                 window_net, windows_of)

OUTER_KINDS = [kind for kind in KIND_NAMES if kind not in FULL_KINDS]


def windows(n, wide):
    return [tuple(range(i, i + wide)) for i in range(n - wide + 1)]


class WindowTest(FoldCase):
    def test_by_rule(self):
        for net, kind in itertools.product(drawn_nets(120, 331), KIND_NAMES):
            words = net.words()
            for wide in range(1, net.width + 1):
                nodes = [[node for node in range(net.size) if alike(kind, words[node], window)]
                         for window in windows(net.width, wide)]
                self.assertEqual(windows_of(kind, net, wide), [min(row, default=None) for row in nodes])
                self.assertIs(is_window_net(kind, net, wide), [] not in nodes)
                if [] in nodes:
                    self.assert_raises_like(NotWindows(nodes.index([])), window_heights, kind, net, wide)
                else:
                    told = [min(net.height(node) for node in row) for row in nodes]
                    self.assertEqual(window_heights(kind, net, wide), told)

    def test_the_width_of_the_net_and_of_1(self):
        net = Net(3, [(0, 1), (3, 2), (1, 2)])
        for kind in FULL_KINDS:
            self.assertEqual([windows_of(kind, net, wide) for wide in (1, 2, 3)], [[0, 1, 2], [3, 5], [4]])
            self.assertEqual([window_heights(kind, net, wide) for wide in (1, 2, 3)], [[0, 0, 0], [1, 1], [2]])
        for kind in KIND_NAMES:
            self.assertEqual(windows_of(kind, Net(1), 1), [0])

    def test_the_least_height_need_not_be_that_of_the_least_node(self):
        net = Net(4, [(0, 1), (4, 2), (5, 3), (2, 3), (4, 7)])
        self.assertEqual([windows_of("list", net, 4), window_heights("list", net, 4)], [[6], [2]])

    def test_each_list_is_new(self):
        net = Net(2, [(0, 1)])
        for call in (windows_of, window_heights):
            told = list(call("set", net, 1))
            call("set", net, 1).clear()
            self.assertEqual(call("set", net, 1), told)

    def test_errors_and_their_order(self):
        net = doubled_net(8, [(9, 8), (10, 5)])
        longer = net.with_merge(11, 0)
        for call in (windows_of, is_window_net, window_heights):
            for thing in ("sets", "", None, 3, ["set"], True):
                self.assert_raises_like(BadKind(thing), call, thing, longer, 0)
            for kind in KIND_NAMES:
                for wide in (0, 3, -1, 10 ** 60):
                    self.assert_raises_like(BadWindow(wide), call, kind, longer, wide)
                # Words of 400 letters are listed, those of 401 are not.
                call(kind, net, 2)
                if kind in ("list", "bag"):
                    self.assert_raises_like(TooLong(12), call, kind, longer, 1)
                else:
                    call(kind, longer, 1)
        wide_net = Net(3, [(a + (a > 1), b + (b > 1)) for a, b in longer.pairs()])
        self.assert_raises_like(TooLong(13), window_heights, "bag", wide_net, 3)
        self.assert_raises_like(NotWindows(0), window_heights, "set", wide_net, 3)


class LeastTest(FoldCase):
    def test_numbers(self):
        self.assertEqual([least_windows(n, 1) for n in (1, 2, 9)], [0, 0, 0])
        self.assertEqual([least_windows(n, 2) for n in (2, 3, 9)], [1, 2, 8])
        self.assertEqual([least_windows(n, 3) for n in (3, 4, 5, 6)], [2, 3, 5, 6])
        # One to ten windows of width 4.
        self.assertEqual([least_windows(n, 4) for n in range(4, 14)], [3, 4, 6, 8, 9, 12, 13, 15, 17, 18])
        self.assertEqual([least_windows(10 ** 59 + 3, 4), least_windows(10 ** 59 + 2, 3)],
                         [2 * 10 ** 59 - 10 ** 59 // 5, 10 ** 59 + 10 ** 59 // 2])

    def test_nets_with_just_so_many(self):
        for n, wide in itertools.product(range(1, 40), range(1, 5)):
            if n < wide:
                continue
            net = window_net(n, wide)
            self.assertEqual([net.width, net.merge_count], [n, least_windows(n, wide)])
            words = set(net.words())
            self.assertTrue(set(windows(n, wide)) <= words)
            for kind in KIND_NAMES:
                self.assertIs(is_window_net(kind, net, wide), True)

    def test_five_windows(self):
        net = window_net(8, 4)
        told = {(2, 3), (4, 5), (1, 2, 3), (4, 5, 6)} | set(windows(8, 4))
        self.assertEqual({word for word in net.words() if len(word) > 1}, told)
        self.assertEqual([net.merge_count, is_window_net("list", net, 4), least_windows(9, 4)], [9, True, 12])

    def test_widths_of_200(self):
        for wide in range(1, 5):
            net = window_net(200, wide)
            self.assertEqual(net.merge_count, least_windows(200, wide))
            self.assertTrue(set(windows(200, wide)) <= set(net.words()))

    def test_no_small_net_has_fewer(self):
        for n, wide, most in ((2, 2, 0), (3, 2, 1), (3, 3, 1), (4, 3, 2), (4, 4, 2)):
            self.assertEqual(least_windows(n, wide), most + 1)
            rows = [()]
            for j in range(most):
                rows = [row + ((a, b),) for row in rows for a in range(n + j) for b in range(n + j)]
            for kind in ("set", "heads", "tails"):
                self.assertFalse(any(is_window_net(kind, Net(n, row), wide) for row in rows))

    def test_bad_windows_and_widths(self):
        for call in (least_windows, window_net):
            for wide in (0, 5, -1, 10 ** 60):
                self.assert_raises_like(BadWindow(wide), call, 3, wide)
                self.assert_raises_like(BadWindow(wide), call, 0, wide)
            for width, wide in ((0, 1), (1, 2), (2, 3), (3, 4), (-5, 4), (-10 ** 60, 1)):
                self.assert_raises_like(BadWidth(width), call, width, wide)


class LowTest(FoldCase):
    def test_numbers(self):
        for kind in FULL_KINDS:
            more = 1 if kind in ("bag", "set") else 2
            told = [3] + [2 * m + more for m in range(2, 20)]
            self.assertEqual([least_low_windows(kind, m + 3) for m in range(1, 20)], told)

    def test_nets_with_just_so_many(self):
        for kind, n in itertools.product(FULL_KINDS, list(range(4, 30)) + [200]):
            net = low_window_net(kind, n)
            self.assertEqual([net.width, net.merge_count, net.tallest], [n, least_low_windows(kind, n), 2])
            self.assertIs(is_window_net(kind, net, 4), True)
            self.assertEqual(window_heights(kind, net, 4), [2] * (n - 3))
            words = [word for word in net.words() if len(word) == 4]
            for window in windows(n, 4):
                self.assertTrue(any(alike(kind, word, window) for word in words))

    def test_no_small_net_has_fewer(self):
        rows = [((a, b), (c, d)) for a, b in itertools.product(range(4), repeat=2)
                for c, d in itertools.product(range(5), repeat=2)]
        for kind in FULL_KINDS:
            self.assertFalse(any(is_window_net(kind, Net(4, row), 4) for row in rows))
        # Two windows with nodes of height 2 take two merges of pairs; two pairs are not enough for them.
        for one, other in itertools.combinations(itertools.combinations(range(5), 2), 2):
            for tops in itertools.product(itertools.product((5, 6), repeat=2), repeat=2):
                self.assertFalse(is_window_net("set", Net(5, [one, other] + list(tops)), 4))

    def test_errors_and_their_order(self):
        for call in (least_low_windows, low_window_net):
            for thing in ("sets", "", None, 3, ["set"], True) + tuple(OUTER_KINDS):
                self.assert_raises_like(BadKind(thing), call, thing, 3)
            for kind, width in itertools.product(FULL_KINDS, (3, 1, 0, -1, -10 ** 60)):
                self.assert_raises_like(BadWidth(width), call, kind, width)


if __name__ == "__main__":
    unittest.main()
