"""Points 31 to 33, the tops of 34, and 35: nets, their words, heights, plain values and results."""

import itertools
import unittest

from tests.helpers import NOT_NODES, FoldCase
from unseenfolds.errors import BadKind, BadLength, BadLetter, BadNet, BadWidth, NoNode, OtherWidth, TooLong
from unseenfolds.kinds import KIND_NAMES, plain_value
from unseenfolds.nets import Net, through
from unseenfolds.tables import Table
from unseenfolds.witnesses import read_fold, witness

def small_nets():
    """Some nets of the widths 1 to 4, shared nodes and both orders of parts among them."""
    nets = [Net(1), Net(3), Net(1, [(0, 0)]), Net(2, ((1, 0), (2, 2), (0, 3)))]
    nets.append(Net(3, [(0, 1), (3, 2), (3, 3), (4, 5)]))
    nets.append(Net(4, [(3, 2), (1, 0), (4, 5), (5, 4), (6, 6), (0, 8)]))
    for one, two, three in itertools.product(range(3), range(4), range(5)):
        nets.append(Net(3, [(one, 2 - one), (two, 3), (three, 4 - three % 3)]))
    return nets


def word_by_rule(net, node):
    """The word of a node, by point 32."""
    parts = net.parts_of(node)
    return (node,) if parts == () else word_by_rule(net, parts[0]) + word_by_rule(net, parts[1])


def doubling(width, times):
    """A net whose merges double the word of item 0, so many times."""
    return Net(width, [(0 if j == 0 else width + j - 1,) * 2 for j in range(times)])


def of_length(many):
    """A net of width 2 whose last node has a word of so many letters, at least 2."""
    return Net(2, [(0, 1)] + [(2 + j, j % 2) for j in range(many - 2)])


class MakingTest(FoldCase):
    def test_attributes(self):
        net = Net(3, [(0, 1), (3, 2), (3, 3), (4, 5)])
        self.assertEqual([net.width, net.size, net.merge_count, net.tallest], [3, 7, 4, 3])
        self.assertEqual(Net.LONGEST, 400)
        self.assertEqual([Net(5).width, Net(5).size, Net(5).merge_count, Net(5).tallest], [5, 5, 0, 0])

    def test_merges_are_copied(self):
        merges = [[0, 1], (3, 2)]
        net = Net(3, merges)
        merges[0][1] = 0
        merges.append((0, 0))
        self.assertEqual(net.pairs(), [(0, 1), (3, 2)])
        net.pairs().clear()
        self.assertEqual(net.pairs(), [(0, 1), (3, 2)])
        self.assertEqual(Net(3, (([0, 1]), [3, 2])).pairs(), [(0, 1), (3, 2)])

    def test_bad_widths(self):
        for width in (0, -1, -400):
            self.assert_raises_like(BadWidth(width), Net, width)
            self.assert_raises_like(BadWidth(width), Net, width, [(5, 5)])

    def test_bad_merges(self):
        told = {
            0: ([(0, 3)], [(3, 0)], [(-1, 0)], [(0, -1)], [(True, 0)], [(0, False)], [(None, 0)], [(0, 1.0)],
                [("0", 1), (9, 9)], [(0, 3), (0, 0)]),
            1: ([(0, 1), (4, 0)], [(0, 1), (0, 4)], [(0, 0), (5, 0), (9, 9)], [(0, 1), (0, (0,))]),
            2: ([(0, 1), (3, 3), (5, 4)], ((0, 1), (3, 3), (4, 5), (0, 1))),
        }
        for number, rows in told.items():
            for merges in rows:
                self.assert_raises_like(BadNet(number), Net, 3, merges)

    def test_which_things_are_nodes(self):
        net = Net(2, [(0, 1), (2, 2)])
        for node in range(4):
            self.assertIs(node in net, True)
        self.assertIs(4 in net, False)
        for thing in NOT_NODES:
            self.assertIs(thing in net, False, thing)

    def test_parts_and_steps(self):
        net = Net(3, [(0, 1), (3, 2), (3, 3), (4, 5)])
        self.assertEqual([net.parts_of(node) for node in range(7)], [(), (), (), (0, 1), (3, 2), (3, 3), (4, 5)])
        self.assertEqual(list(net.steps()), [(3, 0, 1), (4, 3, 2), (5, 3, 3), (6, 4, 5)])
        self.assertEqual(list(Net(4).steps()), [])


class NoNodeTest(FoldCase):
    def test_each_method_names_it(self):
        net = Net(2, [(0, 1), (2, 2)])
        for node in NOT_NODES + (4,):
            for call in (
                lambda: net.parts_of(node), lambda: net.word_length(node), lambda: net.height(node),
                lambda: net.word(node), lambda: net.moved(node, by=3), lambda: net.plain_of("set", node),
                lambda: net.plain_of("bag", node),
            ):
                self.assert_raises_like(NoNode(node), call)

    def test_no_kind_comes_before_it(self):
        self.assert_raises_like(BadKind("x"), Net(1).plain_of, "x", 7)
        self.assert_raises_like(BadKind("x"), doubling(1, 10).plain_values, "x")


class WordsTest(FoldCase):
    def test_the_example(self):
        net = Net(3, [(0, 1), (3, 2), (3, 3), (4, 5)])
        told = [net.word(6), net.heights(), net.tops(), net.plain_of("heads", 5)]
        self.assertEqual(told, [(0, 1, 2, 0, 1, 0, 1), [0, 0, 0, 1, 2, 2, 3], [6], (0, 1)])

    def test_words_lengths_and_heights(self):
        for net in small_nets():
            words = [word_by_rule(net, node) for node in range(net.size)]
            self.assertEqual(net.words(), words)
            self.assertEqual([net.word(node) for node in range(net.size)], words)
            self.assertEqual(net.lengths(), [len(word) for word in words])
            self.assertEqual([net.word_length(node) for node in range(net.size)], net.lengths())
            self.assertEqual([net.height(node) for node in range(net.size)], net.heights())
            self.assertEqual(net.tallest, max(net.heights()))

    def test_heights(self):
        for net in small_nets():
            heights = net.heights()
            for node in range(net.size):
                parts = net.parts_of(node)
                self.assertEqual(heights[node], 1 + max(heights[part] for part in parts) if parts else 0)
                self.assertTrue(heights[node] + 1 <= net.word_length(node) <= 2 ** heights[node])

    def test_tops(self):
        for net in small_nets():
            used = {part for pair in net.pairs() for part in pair}
            self.assertEqual(net.tops(), [node for node in range(net.size) if node not in used])
        self.assertEqual(Net(3).tops(), [0, 1, 2])
        self.assertEqual(Net(3, [(0, 0), (0, 3)]).tops(), [1, 2, 4])

    def test_long_words_have_lengths(self):
        net = doubling(3, 700)
        self.assertEqual(net.word_length(702), 2 ** 700)
        self.assertEqual(net.lengths()[3:], [2 ** j for j in range(1, 701)])
        self.assertEqual([net.tallest, net.height(702)], [700, 700])
        self.assertEqual(net.tops(), [1, 2, 702])

    def test_words_of_400_and_of_401_letters(self):
        net = of_length(400)
        self.assertEqual(net.word(net.size - 1), tuple([0, 1] + [j % 2 for j in range(398)]))
        self.assertEqual(len(net.words()[-1]), 400)
        self.assertEqual(len(net.plain_of("list", net.size - 1)), 400)
        self.assertEqual(net.plain_of("bag", net.size - 1), (0,) * 200 + (1,) * 200)
        net = of_length(402)
        self.assertEqual(net.lengths()[-3:], [400, 401, 402])
        for kind in ("list", "bag"):
            self.assertEqual(len(net.plain_of(kind, net.size - 3)), 400)
            for node in (net.size - 2, net.size - 1):
                self.assert_raises_like(TooLong(node), net.plain_of, kind, node)
                self.assert_raises_like(TooLong(node), net.word, node)
            self.assert_raises_like(TooLong(net.size - 2), net.plain_values, kind)
        self.assert_raises_like(TooLong(net.size - 2), net.words)

    def test_a_long_word_elsewhere_does_not_matter(self):
        net = Net(2, doubling(2, 9).pairs() + [(0, 1), (11, 11)])
        self.assertEqual([net.word(11), net.word(12)], [(0, 1), (0, 1, 0, 1)])
        self.assertEqual(net.plain_of("bag", 12), (0, 0, 1, 1))
        self.assert_raises_like(TooLong(10), net.words)
        self.assert_raises_like(TooLong(10), net.word, 10)


class PlainTest(FoldCase):
    def test_plain_values(self):
        for net in small_nets():
            words = net.words()
            for kind in KIND_NAMES:
                told = [plain_value(kind, word) for word in words]
                self.assertEqual(net.plain_values(kind), told)
                self.assertEqual([net.plain_of(kind, node) for node in range(net.size)], told)

    def test_long_words_are_not_listed_for_the_other_kinds(self):
        net = Net(3, [(1, 0), (3, 3)] + [(4 + j, 4 + j) for j in range(200)] + [(2, 204)])
        told = {"set": (0, 1, 2), "first": (2,), "last": (0,), "ends": (2, 0), "heads": (2, 1, 0), "tails": (2, 1, 0)}
        for kind, value in told.items():
            self.assertEqual(net.plain_of(kind, 205), value)
            self.assertEqual(net.plain_values(kind)[205], value)
        self.assert_raises_like(TooLong(11), net.plain_values, "list")
        self.assert_raises_like(TooLong(205), net.plain_of, "bag", 205)

    def test_a_wide_net(self):
        net = Net(400, [(0, 1)] + [(400 + j, j + 2) for j in range(398)])
        self.assertEqual(net.word(798), tuple(range(400)))
        for kind in ("list", "bag", "set", "heads", "tails"):
            self.assertEqual(net.plain_of(kind, 798), tuple(range(400)))
            self.assertEqual(net.plain_values(kind)[798], tuple(range(400)))

    def test_each_list_is_new(self):
        net = Net(2, [(0, 1)])
        for call in (net.pairs, net.lengths, net.heights, net.words, net.tops, lambda: net.plain_values("set")):
            told = list(call())
            call().clear()
            self.assertEqual(call(), told)


class ResultsTest(FoldCase):
    def test_results_of_an_associative_table_are_folds(self):
        table = Table([[0, 1, 2], [1, 1, 1], [2, 2, 2]])
        self.assertIsNone(table.fault("heads"))
        for net in small_nets():
            for row in itertools.product(range(3), repeat=net.width):
                told = [table.fold([row[letter] for letter in word]) for word in net.words()]
                self.assertEqual(net.results(table, list(row)), told)

    def test_results_of_any_table(self):
        minus = Table([[0, 2, 1], [1, 0, 2], [2, 1, 0]])
        net = Net(3, [(0, 1), (3, 2), (3, 3), (2, 3)])
        self.assertEqual(net.results(minus, (1, 2, 2)), [1, 2, 2, 2, 0, 0, 0])
        self.assertEqual(net.results(minus, [0, 1, 2]), [0, 1, 2, 2, 0, 0, 0])
        self.assertEqual(Net(2).results(minus, [2, 1]), [2, 1])

    def test_the_row_stays(self):
        row = [0, 0]
        Net(2, [(0, 1)]).results(Table([[0]]), row)
        self.assertEqual(row, [0, 0])

    def test_rows_of_another_length(self):
        for row in ([], [0], [0, 0, 0]):
            self.assert_raises_like(BadLength(len(row)), Net(2, [(0, 1)]).results, Table([[0]]), row)

    def test_alike_nodes_have_equal_results_and_others_do_not(self):
        net = Net(3, [(0, 1), (3, 2), (3, 3), (4, 5), (1, 0), (4, 4)])
        for kind in KIND_NAMES:
            values = net.plain_values(kind)
            for one, other in itertools.combinations(range(net.size), 2):
                shown = witness(kind, net.word(one), net.word(other))
                self.assertEqual(shown is None, values[one] == values[other])
                if shown is not None:
                    table, reading = shown
                    marks = dict(reading)
                    results = net.results(table, [marks.get(item, 0) for item in range(3)])
                    self.assertNotEqual(results[one], results[other])
                    self.assertEqual(results[one], read_fold(table, reading, net.word(one)))


class JoiningTest(FoldCase):
    def test_with_merge(self):
        net = Net(2, [(0, 1)])
        more = net.with_merge(2, 0)
        self.assertEqual([more.pairs(), net.pairs()], [[(0, 1), (2, 0)], [(0, 1)]])
        self.assertEqual(more.with_merge(3, 3).pairs()[-1], (3, 3))

    def test_with_merge_of_what_is_no_node(self):
        net = Net(2, [(0, 1)])
        for thing in NOT_NODES + (3,):
            self.assert_raises_like(BadNet(1), net.with_merge, thing, 0)
            self.assert_raises_like(BadNet(1), net.with_merge, 0, thing)
        self.assert_raises_like(BadNet(0), Net(2).with_merge, 2, 0)

    def test_moved(self):
        net = Net(2, [(0, 1), (2, 0)])
        self.assertEqual([net.moved(node, by=5) for node in range(4)], [0, 1, 7, 8])
        self.assertEqual([net.moved(node, by=-9) for node in range(4)], [0, 1, -7, -6])
        self.assertEqual(net.moved(3, by=0), 3)
        self.assertRaises(TypeError, net.moved, 3, 0)

    def test_joined_nets(self):
        for one, other in itertools.product(small_nets()[::7], repeat=2):
            if one.width != other.width:
                self.assert_raises_like(OtherWidth(), lambda: one + other)
                continue
            joined = one + other
            self.assertEqual([joined.width, joined.merge_count], [one.width, one.merge_count + other.merge_count])
            self.assertEqual(joined.words()[:one.size], one.words())
            for node in range(other.size):
                image = other.moved(node, by=one.merge_count)
                self.assertEqual(joined.word(image), other.word(node))
                self.assertEqual(joined.height(image), other.height(node))

    def test_the_numbers_of_joined_nets(self):
        joined = Net(2, [(0, 1), (2, 2)]) + Net(2, [(1, 0), (2, 0)])
        self.assertEqual(joined.pairs(), [(0, 1), (2, 2), (1, 0), (4, 0)])
        self.assertEqual((Net(2) + Net(2)).pairs(), [])
        self.assertRaises(TypeError, lambda: Net(2) + 3)
        self.assertIs(Net(2).__add__([]), NotImplemented)


class ThroughTest(FoldCase):
    def test_words(self):
        for net in small_nets():
            for letters in itertools.product(range(3), repeat=net.width):
                taken = through(net, 5, list(letters))
                self.assertEqual([taken.width, taken.merge_count], [5, net.merge_count])
                for number in range(net.merge_count):
                    told = tuple(letters[v] for v in net.word(net.width + number))
                    self.assertEqual(taken.word(5 + number), told)

    def test_wider_and_narrower(self):
        net = Net(3, [(0, 2), (3, 1)])
        self.assertEqual(through(net, 1, (0, 0, 0)).pairs(), [(0, 0), (1, 0)])
        self.assertEqual(through(net, 400, [399, 0, 7]).pairs(), [(399, 7), (400, 0)])
        self.assertEqual(through(net, 3, [0, 1, 2]).pairs(), net.pairs())
        self.assertEqual(through(Net(2), 1, [0, 0]).size, 1)

    def test_errors_and_their_order(self):
        net = Net(3, [(0, 2)])
        self.assert_raises_like(BadWidth(0), through, net, 0, [])
        self.assert_raises_like(BadWidth(-2), through, net, -2, [9, 9, 9])
        self.assert_raises_like(BadLength(2), through, net, 5, [9, 9])
        self.assert_raises_like(BadLength(4), through, net, 5, (0, 0, 0, 9))
        self.assert_raises_like(BadLength(0), through, net, 5, ())
        self.assert_raises_like(BadLetter(5), through, net, 5, [0, 5, 7])
        self.assert_raises_like(BadLetter(-1), through, net, 5, [0, 4, -1])

    def test_the_letters_stay(self):
        letters = [2, 0, 1]
        net = Net(3, [(0, 2)])
        through(net, 3, letters)
        self.assertEqual([letters, net.pairs()], [[2, 0, 1], [(0, 2)]])


if __name__ == "__main__":
    unittest.main()
