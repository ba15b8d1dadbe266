"""Points 76 to 78: timetables, the ready one, the least number of rounds and scans with just so many."""

import copy
import itertools
import unittest

from tests.helpers import NOT_NODES, Draws, FoldCase, drawn_net
from tests.test_scans import drawn_nets
from unseenfolds.errors import BadTimetable, BadWidth, BadWorkers, NoTight
from unseenfolds.folds import chain, halves
from unseenfolds.kinds import FULL_KINDS, KIND_NAMES
from unseenfolds.nets import Net
from unseenfolds.rounds import least_rounds, round_count, scan_rounds, timetable
from unseenfolds.scans import is_scan


def is_bad_round(net, workers, rounds, place):
    """Whether a round breaks point 76, in the words of round_count."""
    earlier = [node for row in rounds[:place] for node in row]
    row = rounds[place]
    if len(row) > workers or len(set(row)) < len(row):
        return True
    for node in row:
        if not net.width <= node < net.size or node in earlier:
            return True
        if any(part >= net.width and part not in earlier for part in net.parts_of(node)):
            return True
    return False


def bad_place_by_rule(net, workers, rounds):
    """The place that BadTimetable names, None for a timetable."""
    for place in range(len(rounds)):
        if is_bad_round(net, workers, rounds, place):
            return place
    return None if sum(map(len, rounds)) == net.merge_count else len(rounds)


def ready_by_rule(net, workers):
    """The ready timetable, as point 76 says it."""
    rounds, earlier = [], set(range(net.width))
    while len(earlier) < net.size:
        ready = [node for node in range(net.width, net.size)
                 if node not in earlier and set(net.parts_of(node)) <= earlier]
        rounds.append(sorted(ready)[:workers])
        earlier |= set(rounds[-1])
    return rounds


class TimetableTest(FoldCase):
    def test_the_ready_one(self):
        for net, workers in itertools.product(drawn_nets(150, 311, most_merges=9), (1, 2, 3, 5, 20)):
            told = timetable(net, workers)
            self.assertEqual(told, ready_by_rule(net, workers))
            self.assertEqual(round_count(net, workers, told), len(told))
            self.assertGreaterEqual(len(told), net.tallest)
            self.assertGreaterEqual(len(told) * workers, net.merge_count)
            if workers == 1:
                self.assertEqual(len(told), net.merge_count)
            if workers == 20:
                self.assertEqual(len(told), net.tallest)

    def test_examples(self):
        net = Net(4, [(0, 1), (4, 2), (2, 3), (4, 6)])
        self.assertEqual(timetable(net, 1), [[4], [5], [6], [7]])
        self.assertEqual(timetable(net, 2), [[4, 6], [5, 7]])
        self.assertEqual(timetable(Net(3, [(2, 1), (0, 0), (1, 1), (3, 5)]), 2), [[3, 4], [5], [6]])

    def test_nets_without_merges(self):
        for workers in (1, 20):
            self.assertEqual([timetable(Net(3), workers), round_count(Net(3), workers, [])], [[], 0])
            # Rounds may be empty.
            self.assertEqual([round_count(Net(3), workers, [[]]), round_count(Net(3), workers, ((), []))], [1, 2])
            self.assert_raises_like(BadTimetable(1), round_count, Net(3), workers, [[], [0]])

    def test_many_merges(self):
        net, _ = halves(350, range(350))
        self.assertEqual(len(timetable(net, 1)), 349)
        self.assertEqual(len(timetable(net, 175)), 9)
        net, _ = chain(350, range(350))
        self.assertEqual(timetable(net, 20), [[node] for node in range(350, 699)])

    def test_each_list_is_new(self):
        net = Net(3, [(0, 1), (3, 2)])
        told = timetable(net, 2)
        told[0].clear()
        self.assertEqual(timetable(net, 2), [[3], [4]])


class RoundCountTest(FoldCase):
    def test_the_example(self):
        self.assert_raises_like(BadTimetable(1), round_count, Net(3, [(0, 1), (3, 2)]), 2, [[3], [4, 4]])

    def test_against_the_rule(self):
        draws, seen = Draws(313), set()
        for _ in range(3000):
            net, workers = drawn_net(draws, 1 + draws.below(3), draws.below(5)), 1 + draws.below(3)
            rounds = timetable(net, workers)
            for _ in range(draws.below(3)):
                spot = draws.below(len(rounds) + 1)
                if draws.below(3) == 0:
                    rounds.insert(spot, [])
                elif rounds and draws.below(2):
                    rounds[spot - 1] = rounds[spot - 1][1:]
                elif rounds:
                    rounds[spot - 1] = rounds[spot - 1] + [draws.below(net.size + 1)]
            place = bad_place_by_rule(net, workers, rounds)
            seen.add(place)
            if place is None:
                self.assertEqual(round_count(net, workers, rounds), len(rounds))
                self.assertEqual(round_count(net, workers, tuple(map(tuple, rounds))), len(rounds))
            else:
                self.assert_raises_like(BadTimetable(place), round_count, net, workers, rounds)
        self.assertTrue({None, 0, 1, 2, 3} <= seen)

    def test_each_fault(self):
        net = Net(3, [(0, 1), (1, 2), (3, 4)])
        good = [[3, 4], [5]]
        self.assertEqual([round_count(net, 2, good), round_count(net, 2, [[4], [], [3], [5]])], [2, 4])
        for rounds, place in (
            ([[3, 4, 5]], 0), ([[3, 3], [4]], 0), ([[3, 4], [2]], 1), ([[3, 4], [6]], 1), ([[3, 4], [-1]], 1),
            ([[3, 4], [3]], 1), ([[3], [4, 5]], 1), ([[5], [3, 4]], 0), ([[3, 4]], 1), ([], 0), ([[3], [4]], 2),
            ([[3], [4], []], 3), ([[3, 4], [5], [5]], 2), ([[3, 4], [5, 10 ** 60]], 1),
        ):
            self.assert_raises_like(BadTimetable(place), round_count, net, 2, rounds)
        self.assert_raises_like(BadTimetable(0), round_count, net, 1, good)
        for thing in NOT_NODES:
            self.assert_raises_like(BadTimetable(1), round_count, net, 2, [[3, 4], [thing]])

    def test_arguments_stay(self):
        net, rounds = Net(3, [(0, 1), (3, 2)]), [[3], [4]]
        told = copy.deepcopy(rounds)
        round_count(net, 2, rounds)
        self.assertEqual(rounds, told)

    def test_bad_workers(self):
        net = Net(2, [(0, 1)])
        for workers in (0, -1, -10 ** 60):
            self.assert_raises_like(BadWorkers(workers), timetable, net, workers)
            self.assert_raises_like(BadWorkers(workers), round_count, net, workers, [[5]])


def groups_by_rule(n, p):
    """The groups of items, as point 78 says it."""
    total = -(-2 * (n - 1) // (p + 1))
    c = (p + 1) // 2
    middle = [c] * (total - p)
    if p % 2 == 0:
        middle = [(c, c + 1)[j % 2] for j in range(total - p)][::-1]
    sizes = list(range(1, c + 1)) + middle + list(range(c + 1, p + 1))
    sizes[-1] -= sum(sizes) - (n - 1)
    return sizes


class ScanRoundsTest(FoldCase):
    def check_scan(self, n, p):
        net, rounds = scan_rounds(n, p)
        self.assertEqual(net.width, n)
        total = -(-2 * (n - 1) // (p + 1))
        self.assertEqual([round_count(net, p, rounds), len(rounds), least_rounds(n, p)], [total] * 3)
        self.assertIsInstance(rounds, list)
        self.assertTrue(all(isinstance(row, list) for row in rounds))
        words = set(net.words())
        self.assertTrue(all(tuple(range(i + 1)) in words for i in range(n)), (n, p))
        for kind in FULL_KINDS:
            self.assertIs(is_scan(kind, net), True)
        self.check_groups(net, rounds, n, p)

    def check_groups(self, net, rounds, n, p):
        """Each round makes the prefix nodes of the items of its group."""
        words, item = net.words(), 1
        for row, size in zip(rounds, groups_by_rule(n, p)):
            made = [words[node] for node in row]
            for end in range(item, item + size):
                self.assertIn(tuple(range(end + 1)), made)
            self.assertEqual(len([word for word in made if word[0] == 0]), size)
            item += size
        self.assertEqual([item, sum(map(len, rounds))], [n, net.merge_count])

    def test_all_small_widths(self):
        for p in range(1, 9):
            for n in range(1, 61):
                if 2 * (n - 1) >= p * (p + 1):
                    self.check_scan(n, p)
                else:
                    self.assert_raises_like(NoTight(n), scan_rounds, n, p)

    def test_just_wide_enough(self):
        for p in range(1, 15):
            n = p * (p + 1) // 2 + 1
            for more in (0, 1, 2, p // 2, p, p + 1):
                if n + more <= 200:
                    self.check_scan(n + more, p)
            self.assert_raises_like(NoTight(n - 1), scan_rounds, n - 1, p)

    def test_widths_of_200_and_20_workers(self):
        for p in range(1, 20):
            self.check_scan(200, p)
        self.assert_raises_like(NoTight(200), scan_rounds, 200, 20)
        self.check_scan(211, 20)
        self.assertEqual(least_rounds(200, 20), 19)

    def test_the_least_number(self):
        self.assertEqual([least_rounds(1, p) for p in (1, 2, 20)], [0, 0, 0])
        self.assertEqual([least_rounds(2, p) for p in (1, 2, 20)], [1, 1, 1])
        self.assertEqual([least_rounds(10, p) for p in (1, 2, 3, 4, 5)], [9, 6, 5, 4, 3])
        for n, p in itertools.product(range(1, 60), range(1, 12)):
            least = least_rounds(n, p)
            self.assertTrue(least * (p + 1) >= 2 * (n - 1) > (least - 1) * (p + 1))

    def test_no_timetable_of_a_scan_has_fewer(self):
        for n, p in itertools.product(range(1, 30), range(1, 6)):
            net, _ = chain(n, range(n))
            self.assertGreaterEqual(len(timetable(net, p)), least_rounds(n, p))
        for net in drawn_nets(300, 317, most_width=3):
            for kind, p in itertools.product(KIND_NAMES, (1, 2, 3)):
                if kind in FULL_KINDS and is_scan(kind, net):
                    self.assertGreaterEqual(len(timetable(net, p)), least_rounds(net.width, p))

    def test_each_list_is_new(self):
        net, rounds = scan_rounds(4, 2)
        told = copy.deepcopy(rounds)
        rounds[0].clear()
        rounds.pop()
        self.assertEqual(scan_rounds(4, 2)[1], told)
        self.assertEqual(round_count(net, 2, told), 2)

    def test_errors_and_their_order(self):
        for call in (least_rounds, scan_rounds):
            for width in (0, -1, -10 ** 60):
                self.assert_raises_like(BadWidth(width), call, width, 0)
            for workers in (0, -1, -10 ** 60):
                self.assert_raises_like(BadWorkers(workers), call, 1, workers)
                self.assert_raises_like(BadWorkers(workers), call, 100, workers)
        self.assert_raises_like(NoTight(1), scan_rounds, 1, 1)
        self.assert_raises_like(NoTight(3), scan_rounds, 3, 2)


if __name__ == "__main__":
    unittest.main()
