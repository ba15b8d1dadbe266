"""Points 38 to 40: merging by halves and from the left, fold letters, the two least numbers, nets of feeds and rows."""

import itertools
import unittest

from tests.helpers import BIG, NOT_NODES, Draws, FoldCase, drawn_net, few_feeds, words_up_to
from unseenfolds.errors import (BadCount, BadKind, BadLength, BadLetter, BadWidth, EmptyWord, NoNode,
                                NotSimple)
from unseenfolds.feeds import Feed
from unseenfolds.folds import (ceil_log2, chain, chain_over, feed_net, floor_log2, fold_letters, fold_net, halves,
                               halves_over, least_height, least_merges, row_net)
from unseenfolds.kinds import KIND_NAMES, alike, plain_value, repeated_letter
from unseenfolds.nets import Net
from unseenfolds.tables import Table
from unseenfolds.unders import merges_under

BAD_KINDS = ("lists", "", None, 3, ["list"])


def merged_by_rule(pairs, nodes, width):
    """Merges nodes by halves as point 38 says it, adds the merges to the pairs, and returns the outcome."""
    if len(nodes) == 1:
        return nodes[0]
    half = (len(nodes) + 1) // 2
    one = merged_by_rule(pairs, nodes[:half], width)
    other = merged_by_rule(pairs, nodes[half:], width)
    pairs.append((one, other))
    return width + len(pairs) - 1


class LogarithmTest(FoldCase):
    def test_by_powers(self):
        for k in range(1, 300):
            self.assertEqual(ceil_log2(k), min(h for h in range(20) if 2 ** h >= k))
            self.assertEqual(floor_log2(k), max(h for h in range(20) if 2 ** h <= k))

    def test_powers_of_two_and_their_neighbours(self):
        for h in range(2, 200):
            self.assertEqual([ceil_log2(2 ** h + d) for d in (-1, 0, 1)], [h, h, h + 1])
            self.assertEqual([floor_log2(2 ** h + d) for d in (-1, 0, 1)], [h - 1, h, h])
        self.assertEqual([ceil_log2(1), floor_log2(1), ceil_log2(2), floor_log2(2)], [0, 0, 1, 1])
        for k in (10 ** 59, 10 ** 60 - 1, BIG):
            self.assertTrue(2 ** (ceil_log2(k) - 1) < k <= 2 ** ceil_log2(k))
            self.assertTrue(2 ** floor_log2(k) <= k < 2 ** (floor_log2(k) + 1))

    def test_bad_counts(self):
        for k in (0, -1, -BIG):
            self.assert_raises_like(BadCount(k), ceil_log2, k)
            self.assert_raises_like(BadCount(k), floor_log2, k)


class OverTest(FoldCase):
    def test_halves(self):
        draws = Draws(23)
        for many in range(1, 40):
            net = drawn_net(draws, 1 + draws.below(4), draws.below(4))
            nodes = [draws.below(net.size) for _ in range(many)]
            made, outcome = halves_over(net, nodes)
            pairs = net.pairs()
            self.assertEqual(outcome, merged_by_rule(pairs, nodes, net.width))
            self.assertEqual([made.width, made.pairs()], [net.width, pairs])
            self.assertEqual(made.merge_count, net.merge_count + many - 1)
            self.assertEqual(made.word(outcome), tuple(letter for node in nodes for letter in net.word(node)))

    def test_chain(self):
        draws = Draws(29)
        for many in range(1, 40):
            net = drawn_net(draws, 1 + draws.below(4), draws.below(4))
            nodes = tuple(draws.below(net.size) for _ in range(many))
            made, outcome = chain_over(net, nodes)
            pairs, told = net.pairs(), nodes[0]
            for node in nodes[1:]:
                pairs.append((told, node))
                told = net.width + len(pairs) - 1
            self.assertEqual([made.width, made.pairs(), outcome], [net.width, pairs, told])
            self.assertEqual(made.word(outcome), tuple(letter for node in nodes for letter in net.word(node)))

    def test_one_node(self):
        net = Net(3, [(0, 1)])
        for make in (halves_over, chain_over):
            made, outcome = make(net, [3])
            self.assertEqual([made.pairs(), outcome], [[(0, 1)], 3])
            made, outcome = make(net, (1, 1))
            self.assertEqual([made.pairs(), outcome], [[(0, 1), (1, 1)], 4])

    def test_the_net_and_the_row_stay(self):
        net, row = Net(3, [(0, 1)]), [0, 3, 2]
        for make in (halves_over, chain_over):
            make(net, row)
        self.assertEqual([net.pairs(), row], [[(0, 1)], [0, 3, 2]])

    def test_errors(self):
        net = Net(3, [(0, 1)])
        for make in (halves_over, chain_over):
            self.assert_raises_like(EmptyWord(), make, net, [])
            self.assert_raises_like(EmptyWord(), make, net, ())
            for thing in NOT_NODES + (4,):
                self.assert_raises_like(NoNode(thing), make, net, [thing])
                self.assert_raises_like(NoNode(thing), make, net, [0, 3, thing, -5])


class WordTest(FoldCase):
    def test_the_example(self):
        net, outcome = halves(5, (3, 0, 4))
        self.assertEqual([net.pairs(), outcome], [[(3, 0), (5, 4)], 6])

    def test_words(self):
        for word in words_up_to(range(3), 5)[1:]:
            for make, over in ((halves, halves_over), (chain, chain_over)):
                net, outcome = make(3, list(word))
                told, node = over(Net(3), word)
                self.assertEqual([net.width, net.pairs(), outcome], [3, told.pairs(), node])
                self.assertEqual(net.word(outcome), word)

    def test_heights(self):
        for many in range(1, 70):
            net, outcome = halves(many, range(many))
            self.assertEqual([net.height(outcome), net.merge_count], [ceil_log2(many), many - 1])
            net, outcome = chain(many, range(many))
            self.assertEqual([net.height(outcome), net.merge_count], [many - 1, many - 1])

    def test_400_letters(self):
        word = tuple(range(399, -1, -1))
        for make, height in ((halves, 9), (chain, 399)):
            net, outcome = make(400, word)
            self.assertEqual([net.word(outcome), net.height(outcome), net.size], [word, height, 799])

    def test_errors_and_their_order(self):
        for make in (halves, chain):
            for width in (0, -1):
                self.assert_raises_like(BadWidth(width), make, width, [])
                self.assert_raises_like(BadWidth(width), make, width, [5])
            self.assert_raises_like(BadLetter(3), make, 3, [0, 3, 4, 1])
            self.assert_raises_like(BadLetter(7), make, 3, (7, 3))
            self.assert_raises_like(EmptyWord(), make, 3, [])
            self.assert_raises_like(EmptyWord(), make, 1, ())


class GoalTest(FoldCase):
    def goals(self, kind):
        words = words_up_to(range(3), 4)[1:] + [(7, 2, 7), (5,), (9, 8, 7, 6, 5)]
        return [word for word in words if kind not in ("list", "bag") or repeated_letter(word) is None]

    def test_fold_letters(self):
        for kind in KIND_NAMES:
            for goal in self.goals(kind):
                told = []
                for letter in plain_value(kind, goal):
                    if letter not in told:
                        told.append(letter)
                self.assertEqual(fold_letters(kind, goal), tuple(told))
                self.assertEqual(fold_letters(kind, list(goal)), tuple(told))
                self.assertEqual(least_merges(kind, goal), len(told) - 1)
                self.assertEqual(least_height(kind, goal), ceil_log2(len(told)))

    def test_examples(self):
        self.assertEqual([fold_letters(kind, (2, 0, 1)) for kind in KIND_NAMES],
                         [(2, 0, 1), (0, 1, 2), (0, 1, 2), (2,), (1,), (2, 1), (2, 0, 1), (2, 0, 1)])
        self.assertEqual([fold_letters("ends", (2, 0, 2)), fold_letters("tails", (2, 0, 2, 1, 0))], [(2,), (2, 1, 0)])
        self.assertEqual([least_merges("ends", (2, 0, 2)), least_height("ends", (2, 0))], [0, 1])
        self.assertEqual(least_height("heads", tuple(range(33)) * 2), 6)

    def test_the_made_net_reaches_both_least_numbers(self):
        for kind in KIND_NAMES:
            for goal in self.goals(kind):
                net, outcome = fold_net(kind, goal, 10)
                self.assertEqual(net.width, 10)
                self.assertTrue(alike(kind, net.word(outcome), goal))
                self.assertEqual(net.word(outcome), fold_letters(kind, goal))
                self.assertEqual(len(merges_under(net, outcome)), least_merges(kind, goal))
                self.assertEqual(net.merge_count, least_merges(kind, goal))
                self.assertEqual(net.height(outcome), least_height(kind, goal))
                self.assertEqual(net.pairs(), halves(10, fold_letters(kind, goal))[0].pairs())

    def test_no_node_needs_less(self):
        draws = Draws(41)
        for _ in range(60):
            net = drawn_net(draws, 1 + draws.below(4), draws.below(7))
            for kind in KIND_NAMES:
                for node in range(net.size):
                    goal = net.word(node)
                    if kind in ("list", "bag") and repeated_letter(goal) is not None:
                        continue
                    self.assertGreaterEqual(len(merges_under(net, node)), least_merges(kind, goal))
                    self.assertGreaterEqual(net.height(node), least_height(kind, goal))

    def test_60_letters(self):
        goal = tuple(range(59, -1, -1))
        for kind in ("list", "bag", "set", "heads", "tails"):
            self.assertEqual([least_merges(kind, goal), least_height(kind, goal)], [59, 6])

    def test_errors(self):
        for call in (fold_letters, least_merges, least_height):
            for kind in KIND_NAMES:
                self.assert_raises_like(EmptyWord(), call, kind, ())
                self.assert_raises_like(EmptyWord(), call, kind, [])
            for kind in ("list", "bag"):
                self.assert_raises_like(NotSimple(2), call, kind, (1, 2, 3, 2, 1))
            for name in BAD_KINDS:
                self.assert_raises_like(BadKind(name), call, name, ())

    def test_errors_of_fold_net_and_their_order(self):
        for name in BAD_KINDS:
            self.assert_raises_like(BadKind(name), fold_net, name, (), 0)
        for kind in KIND_NAMES:
            self.assert_raises_like(BadWidth(0), fold_net, kind, (), 0)
            self.assert_raises_like(BadWidth(-3), fold_net, kind, (1, 1), -3)
            self.assert_raises_like(EmptyWord(), fold_net, kind, [], 2)
            self.assert_raises_like(BadLetter(9), fold_net, kind, [1, 9, 0, 8], 2)
            # The letters between the ends count, although outer kinds do not fold them.
            self.assert_raises_like(BadLetter(2), fold_net, kind, (0, 2, 1), 2)
        for kind in ("list", "bag"):
            self.assert_raises_like(NotSimple(9), fold_net, kind, (9, 9), 2)


class RowTest(FoldCase):
    def test_rows(self):
        row = ((6, -1, 5), (2, 2, 3))
        word = (6, 5, 4, 3, 2, 2, 4, 6)
        for chained, make in ((False, halves), (True, chain)):
            net, outcome = row_net(9, row, chained=chained)
            told, node = make(9, word)
            self.assertEqual([net.width, net.pairs(), outcome], [9, told.pairs(), node])
        self.assertEqual(row_net(9, row)[0].pairs(), halves(9, word)[0].pairs())

    def test_errors(self):
        for chained in (False, True):
            self.assert_raises_like(BadWidth(0), row_net, 0, (), chained=chained)
            self.assert_raises_like(BadWidth(0), row_net, 0, ((0, 1, 2),), chained=chained)
            self.assert_raises_like(EmptyWord(), row_net, 3, (), chained=chained)
            self.assert_raises_like(BadLetter(3), row_net, 3, ((1, 1, 4),), chained=chained)
            self.assert_raises_like(BadLetter(5), row_net, 3, ((0, 1, 2), (5, -1, 6)), chained=chained)
        self.assertRaises(TypeError, row_net, 3, ((0, 1, 2),), True)


class FeedTest(FoldCase):
    def test_the_word_is_that_of_the_feed(self):
        for f, length in itertools.product(few_feeds(), (1, 2, 3, 7, 12)):
            word = f.word_at(length)
            for chained, make in ((False, halves), (True, chain)):
                if not word:
                    self.assert_raises_like(EmptyWord(), feed_net, f, length, chained=chained)
                    continue
                net, outcome = feed_net(f, length, chained=chained)
                self.assertEqual([net.width, net.word(outcome)], [length, word])
                self.assertEqual(net.pairs(), make(length, word)[0].pairs())

    def test_results_are_folds_of_what_the_feed_makes(self):
        table = Table([[0, 1, 2], [1, 1, 1], [2, 2, 2]])
        for f in few_feeds():
            row = [(5 * j + 1) % 3 for j in range(8)]
            if f.size_at(8) > 0:
                for chained in (False, True):
                    net, outcome = feed_net(f, 8, chained=chained)
                    self.assertEqual(net.results(table, row)[outcome], table.fold(f(row)))

    def test_long_words(self):
        f = Feed.read("both (same) (both (turn) (same))")
        net, outcome = feed_net(f, 400)
        self.assertEqual([net.word_length(outcome), net.height(outcome), net.merge_count], [1200, 11, 1199])
        net, outcome = feed_net(Feed.read("front 1"), 5)
        self.assertEqual([net.width, net.pairs(), outcome], [5, [], 0])

    def test_errors_and_their_order(self):
        for chained in (False, True):
            for length in (0, -1, -BIG):
                self.assert_raises_like(BadLength(length), feed_net, Feed.same(), length, chained=chained)
                self.assert_raises_like(BadLength(length), feed_net, Feed.read("front 0"), length, chained=chained)
            self.assert_raises_like(EmptyWord(), feed_net, Feed.read("front 0"), 5, chained=chained)
            self.assert_raises_like(EmptyWord(), feed_net, Feed.read("rest 5"), 5, chained=chained)
        self.assertRaises(TypeError, feed_net, Feed.same(), 3, True)


if __name__ == "__main__":
    unittest.main()
