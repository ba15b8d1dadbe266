"""Point 62: the nets of a plan, and what they cost."""

import itertools
import unittest

from tests.helpers import BIG, FoldCase
from tests.planhelpers import all_plans
from unseenfolds.costs import costs, plan_net, results_net
from unseenfolds.errors import BadLength, EmptyWord
from unseenfolds.folds import ceil_log2
from unseenfolds.plans import Plan
from unseenfolds.unders import nodes_under

FORMS = [{"chained": one, "top_chained": other} for one, other in itertools.product((False, True), repeat=2)]


def merged_by_rule(pairs, nodes, width, chained):
    """Merges nodes as point 38 says it, adds the merges to the pairs, and returns the outcome."""
    if len(nodes) == 1:
        return nodes[0]
    half = len(nodes) - 1 if chained else (len(nodes) + 1) // 2
    one = merged_by_rule(pairs, nodes[:half], width, chained)
    other = merged_by_rule(pairs, nodes[half:], width, chained)
    pairs.append((one, other))
    return width + len(pairs) - 1


def results_by_rule(plan, length, chained):
    pairs = []
    return pairs, [merged_by_rule(pairs, word, length, chained) if word else None for word in plan.words_at(length)]


class NetTest(FoldCase):
    def test_result_nodes(self):
        for plan in all_plans():
            for length in range(1, 8):
                net, results = results_net(plan, length)
                pairs, told = results_by_rule(plan, length, False)
                self.assertEqual([net.width, net.pairs(), results], [length, pairs, told])
                self.assertIsInstance(results, list)
                for number, node in enumerate(results):
                    word = plan.word_of(number, length)
                    self.assertEqual(() if node is None else net.word(node), word)

    def test_nets_of_plans(self):
        for plan in all_plans():
            for length, form in itertools.product(range(1, 8), FORMS):
                if not plan.word_at(length):
                    self.assert_raises_like(EmptyWord(), plan_net, plan, length, **form)
                    continue
                net, outcome = plan_net(plan, length, **form)
                pairs, results = results_by_rule(plan, length, form["chained"])
                results = [node for node in results if node is not None]
                told = merged_by_rule(pairs, results, length, form["top_chained"])
                self.assertEqual([net.width, net.pairs(), outcome], [length, pairs, told])
                self.assertEqual(net.word(outcome), plan.word_at(length))

    def test_by_halves_unless_told_otherwise(self):
        plan = Plan.read("same\nsame\nsame\nsame")
        told = plan_net(plan, 5, chained=False, top_chained=False)[0].pairs()
        self.assertEqual(plan_net(plan, 5)[0].pairs(), told)
        net, outcome = plan_net(plan, 5)
        self.assertEqual([net.merge_count, net.height(outcome), costs(plan, 5)], [19, 5, (19, 5)])

    def test_one_item(self):
        plan = Plan.read("same\nfront 0\nlast 1")
        self.assertEqual([results_net(plan, 1)[0].pairs(), results_net(plan, 1)[1]], [[], [0, None, 0]])
        # A merge of one node with itself.
        net, outcome = plan_net(plan, 1)
        self.assertEqual([net.pairs(), outcome, costs(plan, 1)], [[(0, 0)], 1, (1, 1)])
        net, outcome = plan_net(Plan.read("same"), 1)
        self.assertEqual([net.pairs(), outcome, costs(Plan.read("same"), 1)], [[], 0, (0, 0)])

    def test_large_plans(self):
        plan = Plan.read("\n".join(["both (same) (turn)"] * 12))
        for form in FORMS:
            net, outcome = plan_net(plan, 60, **form)
            self.assertEqual((net.merge_count, net.height(outcome)), costs(plan, 60, **form))
        self.assertEqual(plan_net(Plan.read("same"), 400)[0].merge_count, 399)


class CostTest(FoldCase):
    def test_against_the_net(self):
        for plan in all_plans():
            for length, form in itertools.product(range(9), FORMS):
                if not plan.word_at(length):
                    self.assert_raises_like(EmptyWord(), costs, plan, length, **form)
                    continue
                net, outcome = plan_net(plan, length, **form)
                self.assertEqual(costs(plan, length, **form), (net.merge_count, net.height(outcome)))
                self.assertLessEqual(len(nodes_under(net, outcome)), net.size)

    def test_lengths_of_60_digits(self):
        for length in (BIG, 10 ** 59, 10 ** 60 - 1):
            plan = Plan.read("same")
            told = [costs(plan, length, **form) for form in FORMS]
            height = ceil_log2(length)
            self.assertEqual(told, [(length - 1, height)] * 2 + [(length - 1, length - 1)] * 2)
            plan = Plan.read("front 3\nfront 0\nblock 2 0\nrest 5")
            sizes = [3, length // 2, length - 5]
            heights = [ceil_log2(size) for size in sizes]
            merges = sum(sizes) - 1
            self.assertEqual(costs(plan, length), (merges, 1 + max(1 + max(heights[0], heights[1]), heights[2])))
            self.assertEqual(costs(plan, length, top_chained=True), (merges, 1 + max(1 + heights[1], heights[2])))
            self.assertEqual(costs(plan, length, chained=True), (merges, length - 5))
            self.assertEqual(costs(plan, length, chained=True, top_chained=True), (merges, length - 5))

    def test_heights_of_the_top(self):
        plan = Plan.read("\n".join(["same"] + ["front 1"] * 11))
        # 12 are halved to 6 and 6, then 3 and 3, then 2 and 1: the first one is 4 merges below the outcome.
        self.assertEqual([costs(plan, 16), costs(plan, 16, top_chained=True)], [(26, 8), (26, 15)])
        self.assertEqual(costs(plan, 16, chained=True, top_chained=True), (26, 26))
        plan = Plan.read("\n".join(["front 1"] * 11 + ["same"]))
        self.assertEqual([costs(plan, 16), costs(plan, 16, top_chained=True)], [(26, 7), (26, 11)])


class ErrorTest(FoldCase):
    def test_bad_lengths(self):
        for plan in (Plan.read("same"), Plan.read("front 0")):
            for length in (0, -1, -BIG):
                self.assert_raises_like(BadLength(length), results_net, plan, length)
                self.assert_raises_like(BadLength(length), plan_net, plan, length)
            self.assert_raises_like(BadLength(-1), costs, plan, -1)
            self.assert_raises_like(EmptyWord(), costs, plan, 0)

    def test_empty_plans(self):
        plan = Plan.read("front 0\nlast 0")
        net, results = results_net(plan, 3)
        self.assertEqual([net.width, net.pairs(), results], [3, [], [None, None]])
        self.assert_raises_like(EmptyWord(), plan_net, plan, 3)
        self.assert_raises_like(EmptyWord(), costs, plan, BIG)

    def test_by_keyword_alone(self):
        for call in (plan_net, costs):
            self.assertRaises(TypeError, call, Plan.read("same"), 3, True)

    def test_each_list_is_new(self):
        plan = Plan.read("same\nlast 1")
        results_net(plan, 3)[1].clear()
        self.assertEqual(results_net(plan, 3)[1], [4, 2])


if __name__ == "__main__":
    unittest.main()
