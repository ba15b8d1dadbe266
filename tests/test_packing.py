"""Point 37: packed nets."""

import unittest

from tests.helpers import Draws, FoldCase, drawn_net
from unseenfolds.errors import BadKind, TooLong
from unseenfolds.kinds import KIND_NAMES, under
from unseenfolds.nets import Net
from unseenfolds.packing import packed
from unseenfolds.tables import Table


def drawn_nets(many=60):
    draws = Draws(17)
    return [drawn_net(draws, 1 + draws.below(4), draws.below(9)) for _ in range(many)]


class PackingTest(FoldCase):
    def test_the_example(self):
        small, images = packed(Net(3, [(0, 1), (3, 2), (3, 3), (4, 5)]), "set")
        self.assertEqual([small.pairs(), images], [[(0, 1), (3, 2)], (0, 1, 2, 3, 4, 3, 4)])

    def test_images_are_alike(self):
        for net in drawn_nets():
            for kind in KIND_NAMES:
                small, images = packed(net, kind)
                self.assertIsInstance(images, tuple)
                self.assertEqual(small.width, net.width)
                self.assertEqual([small.plain_values(kind)[image] for image in images], net.plain_values(kind))
                self.assertEqual(sorted(set(images)), list(range(small.size)))

    def test_no_two_nodes_are_alike(self):
        for net in drawn_nets():
            for kind in KIND_NAMES:
                small, _ = packed(net, kind)
                self.assertEqual(len(set(small.plain_values(kind))), small.size)
                self.assertEqual(small.size, len(set(net.plain_values(kind))))

    def test_the_kept_merges_stand_in_order(self):
        for net in drawn_nets():
            for kind in KIND_NAMES:
                small, images = packed(net, kind)
                values = net.plain_values(kind)
                kept = [node for node in range(net.size) if values[node] not in values[:node]]
                self.assertEqual([images[node] for node in kept], list(range(small.size)))
                told = [tuple(images[part] for part in net.parts_of(node)) for node in kept[net.width:]]
                self.assertEqual(small.pairs(), told)

    def test_kinds_under_kinds(self):
        for net in drawn_nets()[:20]:
            many = {kind: packed(net, kind)[0].merge_count for kind in KIND_NAMES}
            for kind in KIND_NAMES:
                for other in KIND_NAMES:
                    if under(kind, other):
                        self.assertLessEqual(many[kind], many[other])

    def test_results(self):
        table = Table([[0, 1], [1, 1]])
        for net in drawn_nets()[:20]:
            small, images = packed(net, "set")
            row = [j % 2 for j in range(net.width)]
            told = small.results(table, row)
            self.assertEqual([told[image] for image in images], net.results(table, row))

    def test_a_net_without_merges_and_a_merge_of_one_node(self):
        for kind in KIND_NAMES:
            small, images = packed(Net(3), kind)
            self.assertEqual([small.width, small.pairs(), images], [3, [], (0, 1, 2)])
        self.assertEqual(packed(Net(1, [(0, 0), (1, 1)]), "ends")[0].pairs(), [])
        self.assertEqual(packed(Net(1, [(0, 0), (1, 1)]), "bag")[0].pairs(), [(0, 0), (1, 1)])
        small, images = packed(Net(2, [(0, 1), (1, 0)]), "bag")
        self.assertEqual([small.pairs(), images], [[(0, 1)], (0, 1, 2, 2)])

    def test_heights_may_become_greater(self):
        net = Net(2, [(0, 0), (0, 1), (2, 0), (4, 0), (5, 1), (2, 3)])
        small, images = packed(net, "heads")
        self.assertEqual([small.pairs(), images], [[(0, 1)], (0, 1, 0, 2, 0, 0, 2, 2)])
        net = Net(4, [(0, 1), (4, 2), (5, 3), (2, 3), (4, 7)])
        small, images = packed(net, "list")
        self.assertEqual([small.pairs(), images[8]], [net.pairs()[:4], 6])
        self.assertEqual([net.height(8), small.height(6)], [2, 3])

    def test_long_words(self):
        net = Net(1, [(j, j) for j in range(9)])
        self.assertEqual(packed(Net(1, net.pairs()[:8]), "list")[0].size, 9)
        for kind in KIND_NAMES:
            if kind in ("list", "bag"):
                self.assert_raises_like(TooLong(9), packed, net, kind)
            else:
                self.assertEqual(packed(net, kind)[1], (0,) * 10)

    def test_words_of_400_and_of_401_letters(self):
        net = Net(2, [(0, 1)] + [(2 + j, j % 2) for j in range(399)])
        self.assertEqual(net.lengths()[-2:], [400, 401])
        for kind in KIND_NAMES:
            short = Net(2, net.pairs()[:-1])
            self.assertEqual(packed(short, kind)[0].size, len(set(short.plain_values(kind))))
            if kind in ("list", "bag"):
                self.assert_raises_like(TooLong(net.size - 1), packed, net, kind)
            else:
                self.assertEqual(len(packed(net, kind)[1]), net.size)

    def test_bad_kinds(self):
        net = Net(1, [(j, j) for j in range(9)])
        for name in ("lists", "", None, 3, ["list"]):
            self.assert_raises_like(BadKind(name), packed, net, name)


if __name__ == "__main__":
    unittest.main()
