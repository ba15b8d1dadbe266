"""Points 55 and 56, and what 57 and 58 tell of trees, copies and packed nets."""

import itertools
import unittest

from tests.helpers import Draws, FoldCase, all_kinds_cases, drawn_net, subsets
from unseenfolds.blows import is_blow
from unseenfolds.errors import BadCount, NotTree
from unseenfolds.folds import chain, floor_log2, halves
from unseenfolds.kinds import FULL_KINDS, alike
from unseenfolds.nets import Net
from unseenfolds.packing import packed
from unseenfolds.spans import Remains
from unseenfolds.strengths import Strength, strength_of
from unseenfolds.topways import copied_net, top_way, ways_up
from unseenfolds.unders import is_tree, nodes_under


def drawn_tree(draws, width):
    """Returns a net that is a tree over its last node with all nodes at or under it."""
    pairs, tops = [], list(range(width))
    while len(tops) > 1:
        pairs.append((tops.pop(draws.below(len(tops))), tops.pop(draws.below(len(tops)))))
        tops.append(width + len(pairs) - 1)
    return Net(width, pairs)


def trees(many, seed, most):
    draws = Draws(seed)
    return [drawn_tree(draws, 1 + draws.below(most)) for _ in range(many)]


def ways_by_rule(net):
    """The ways of all items, as point 55 says it: on and on the merge that the last one is a part of."""
    ways = []
    for item in range(net.width):
        way = [item]
        while way[-1] != net.size - 1:
            way += [node for node, *parts in net.steps() if way[-1] in parts]
        ways.append(way)
    return ways


def is_tree_of_all(net):
    """True if the net is as in point 55."""
    last = net.size - 1
    return is_tree(net, last) and nodes_under(net, last) == list(range(net.size))


class WayTest(FoldCase):
    def test_the_examples(self):
        net, outcome = chain(4, (2, 0, 3, 1))
        self.assertEqual([ways_up(net), top_way(net), outcome], [[4, 2, 4, 3], [1, 6], 6])
        self.assert_raises_like(NotTree(1), top_way, Net(3, [(0, 1), (1, 2)]))

    def test_one_item(self):
        self.assertEqual([ways_up(Net(1)), top_way(Net(1))], [[1], [0]])

    def test_by_rule(self):
        for net in trees(80, 223, 9):
            ways = ways_by_rule(net)
            self.assertEqual(ways_up(net), [len(way) for way in ways])
            self.assertEqual(top_way(net), min(ways, key=len))

    def test_of_several_the_least_item(self):
        self.assertEqual(top_way(Net(4, [(3, 2), (1, 0), (4, 5)])), [0, 5, 6])
        self.assertEqual(top_way(Net(3, [(1, 0), (2, 3)])), [2, 4])
        self.assertEqual(top_way(Net(2, [(1, 0)])), [0, 2])

    def test_which_nets_are_no_trees(self):
        told = 0
        for number in range(400):
            draws = Draws(number)
            width = 1 + draws.below(4)
            net = drawn_net(draws, width, draws.below(5))
            uses = [[part for _, *parts in net.steps() for part in parts].count(node) for node in range(net.size)]
            bad = [node for node in range(net.size - 1) if uses[node] != 1]
            self.assertEqual(not bad, is_tree_of_all(net))
            for call in (ways_up, top_way):
                if bad:
                    self.assert_raises_like(NotTree(bad[0]), call, net)
                else:
                    call(net)
                    told += 1
        self.assertGreater(told, 20)

    def test_edges(self):
        for call in (ways_up, top_way):
            # A merge of one node with itself; items or merges that are no part; a part of two merges.
            self.assert_raises_like(NotTree(0), call, Net(1, [(0, 0)]))
            self.assert_raises_like(NotTree(0), call, Net(2))
            self.assert_raises_like(NotTree(2), call, Net(3, [(0, 1)]))
            self.assert_raises_like(NotTree(3), call, Net(3, [(0, 1), (3, 3), (4, 2)]))
            self.assert_raises_like(NotTree(1), call, Net(3, [(0, 1), (1, 2), (3, 4)]))
            self.assert_raises_like(NotTree(0), call, Net(2, [(0, 1), (0, 1)]))

    def test_each_list_is_new(self):
        net = chain(3, (0, 1, 2))[0]
        for call in (ways_up, top_way):
            told = call(net)
            told.clear()
            self.assertEqual(call(net), {ways_up: [3, 3, 2], top_way: [2, 4]}[call])

    def test_a_large_tree(self):
        net, _ = halves(400, range(400))
        self.assertEqual(sorted(set(ways_up(net))), [9, 10])
        net, _ = chain(400, range(400))
        self.assertEqual(ways_up(net), [400] + list(range(400, 1, -1)))
        self.assertEqual(top_way(net), [399, 798])


class StrengthOfTreesTest(FoldCase):
    def test_the_least_number_of_nodes_of_a_way(self):
        for net in trees(50, 227, 8):
            goal = net.word(net.size - 1)
            for kind in FULL_KINDS:
                strength = strength_of(net, kind, goal)
                self.assertEqual(strength, min(ways_up(net)))
                self.assertEqual(strength, len(top_way(net)))
                self.assertLessEqual(strength, floor_log2(net.width) + 1)
                for way in ways_by_rule(net):
                    self.assertIs(is_blow(net, kind, goal, way), True)
            for nodes in subsets(range(net.size))[:200]:
                if len(nodes) < len(top_way(net)):
                    self.assertIs(is_blow(net, "list", goal, nodes), False)

    def test_words_merged_by_halves_and_from_the_left(self):
        for n in range(1, 40):
            self.assertEqual(min(ways_up(halves(n, range(n))[0])), floor_log2(n) + 1)
            self.assertEqual(min(ways_up(chain(n, range(n))[0])), min(n, 2))


class CopiesTest(FoldCase):
    def test_by_rule(self):
        draws = Draws(229)
        for _ in range(60):
            net = drawn_net(draws, 1 + draws.below(4), draws.below(5))
            for count in range(1, 4):
                pairs = net.pairs()
                for pair in net.pairs():
                    pairs += [pair] * (count - 1)
                made = copied_net(net, count)
                self.assertEqual([made.width, made.pairs()], [net.width, pairs])
                self.assertEqual(made.merge_count, count * net.merge_count)

    def test_edges(self):
        net = Net(2, [(0, 1), (2, 2)])
        self.assertEqual(copied_net(net, 1).pairs(), net.pairs())
        self.assertEqual(copied_net(net, 3).pairs(), [(0, 1), (2, 2), (0, 1), (0, 1), (2, 2), (2, 2)])
        self.assertEqual([copied_net(Net(3), 5).pairs(), copied_net(Net(3), 5).width], [[], 3])
        self.assertEqual(net.pairs(), [(0, 1), (2, 2)])

    def test_bad_counts(self):
        for count in (0, -1, -10 ** 60):
            self.assert_raises_like(BadCount(count), copied_net, Net(2, [(0, 1)]), count)
            self.assert_raises_like(BadCount(count), copied_net, Net(1), count)

    def test_the_strength_with_copies(self):
        for net in trees(25, 233, 6):
            goal = net.word(net.size - 1)
            least = min(ways_up(net)) - 1
            for count in (1, 2, 3, 5):
                for kind in FULL_KINDS:
                    strength = Strength(copied_net(net, count), kind, goal)
                    self.assertEqual(strength.strength, 1 + count * least)
                    mendings = strength.mendings()
                    self.assertEqual(len(mendings), strength.strength)
                    # Any smaller number of lost nodes leaves one of them whole.
                    lost = [row[0] for row in mendings[1:]]
                    self.assertIs(is_blow(copied_net(net, count), kind, goal, sorted(lost)), False)

    def test_copies_of_any_net(self):
        for kind, net, goal, loss in all_kinds_cases(40, 239, most_merges=4):
            more = copied_net(net, 2)
            if kind == "bag" and not Remains(more, kind, goal, loss=loss).spanned:
                continue
            before, behind = strength_of(net, kind, goal, loss=loss), strength_of(more, kind, goal, loss=loss)
            self.assertTrue(before <= behind <= before + net.merge_count)


class PackedTest(FoldCase):
    def test_packing_takes_merges_away(self):
        for kind, net, goal, loss in all_kinds_cases(60, 241, most_merges=6):
            small, images = packed(net, kind)
            if loss or (kind == "bag" and not Remains(net, kind, goal).spanned):
                continue
            before, behind = strength_of(small, kind, goal), strength_of(net, kind, goal)
            self.assertTrue(before <= behind <= before + net.merge_count - small.merge_count)
            whole = [node for node in range(net.size) if alike(kind, net.word(node), goal)]
            kept = [node for node in range(small.size) if alike(kind, small.word(node), goal)]
            self.assertEqual(len(kept), min(len(whole), 1))
            self.assertEqual(sorted({images[node] for node in whole}), kept)

    def test_copies_are_packed_away(self):
        for net in trees(20, 251, 6):
            for kind, count in itertools.product(FULL_KINDS, (1, 2, 4)):
                small, _ = packed(copied_net(net, count), kind)
                self.assertEqual(small.pairs(), net.pairs())
                self.assertEqual(strength_of(small, kind, net.word(net.size - 1)), min(ways_up(net)))


if __name__ == "__main__":
    unittest.main()
