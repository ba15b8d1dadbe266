"""Point 34: at or under a node, shared nodes, trees."""

import unittest

from tests.helpers import NOT_NODES, Draws, FoldCase, drawn_net
from unseenfolds.errors import NoNode
from unseenfolds.folds import chain, halves
from unseenfolds.kinds import repeated_letter
from unseenfolds.nets import Net
from unseenfolds.unders import is_tree, letters_under, merges_under, nodes_under, shared_node

FUNCTIONS = (nodes_under, merges_under, letters_under, shared_node, is_tree)


def drawn_nets(many=120):
    draws = Draws(5)
    return [drawn_net(draws, 1 + draws.below(5), draws.below(7)) for _ in range(many)]


def under_by_rule(net, node):
    """The set of the nodes at or under a node, by point 34."""
    told = {node}
    for part in net.parts_of(node):
        told |= under_by_rule(net, part)
    return told


class UnderTest(FoldCase):
    def test_nodes_merges_and_letters(self):
        for net in drawn_nets():
            for node in range(net.size):
                told = sorted(under_by_rule(net, node))
                self.assertEqual(nodes_under(net, node), told)
                self.assertEqual(merges_under(net, node), [v for v in told if v >= net.width])
                self.assertEqual(letters_under(net, node), [v for v in told if v < net.width])
                self.assertEqual(letters_under(net, node), sorted(set(net.word(node))))

    def test_a_node_shared_by_one_merge(self):
        net = Net(3, [(1, 1), (0, 3)])
        self.assertEqual([shared_node(net, v) for v in range(5)], [None, None, None, 1, 1])
        self.assertEqual([is_tree(net, v) for v in range(5)], [True, True, True, False, False])

    def test_the_least_shared_node(self):
        net = Net(4, [(2, 3), (4, 1), (4, 5), (0, 1), (7, 6)])
        self.assertEqual([shared_node(net, v) for v in range(4, 9)], [None, None, 4, None, 1])
        self.assertEqual(shared_node(Net(2, [(0, 1), (2, 2)]), 3), 2)

    def test_merges_elsewhere_do_not_count(self):
        net = Net(3, [(0, 1), (0, 1), (3, 2), (4, 2)])
        self.assertEqual([is_tree(net, v) for v in range(7)], [True] * 7)

    def test_shared_nodes_by_counting(self):
        for net in drawn_nets():
            for node in range(net.size):
                parts = [part for merge in merges_under(net, node) for part in net.parts_of(merge)]
                twice = [part for part in parts if parts.count(part) > 1]
                self.assertEqual(shared_node(net, node), min(twice, default=None))

    def test_a_word_is_simple_exactly_over_a_tree(self):
        for net in drawn_nets():
            for node in range(net.size):
                tree = is_tree(net, node)
                self.assertEqual(tree, repeated_letter(net.word(node)) is None)
                many = len(merges_under(net, node))
                letters = letters_under(net, node)
                self.assertLessEqual(len(letters), many + 1)
                self.assertEqual(len(letters) == many + 1, tree)

    def test_made_trees(self):
        for make in (halves, chain):
            net, outcome = make(9, (3, 1, 4, 8, 5, 0, 2))
            self.assertTrue(is_tree(net, outcome))
            net, outcome = make(9, (3, 1, 4, 1))
            self.assertEqual([is_tree(net, outcome), shared_node(net, outcome)], [False, 1])

    def test_what_is_no_node(self):
        net = Net(2, [(0, 1)])
        for function in FUNCTIONS:
            for thing in NOT_NODES + (3,):
                self.assert_raises_like(NoNode(thing), function, net, thing)

    def test_each_list_is_new(self):
        net = Net(2, [(0, 1)])
        for function in FUNCTIONS[:3]:
            function(net, 2).clear()
        self.assertEqual([function(net, 2) for function in FUNCTIONS[:3]], [[0, 1, 2], [2], [0, 1]])


if __name__ == "__main__":
    unittest.main()
