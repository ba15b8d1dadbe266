"""Points 63, 64 and the parts of 61, 67 and 70 about single pieces: a piece lost, a piece again."""

import itertools
import unittest

from tests.helpers import BIG, NOT_NODES, TOLD_400, TOLD_401, FoldCase
from tests.planhelpers import all_plans, run_value, told_plans
from unseenfolds.errors import BadKind, BadLength, NoPiece, TooLarge
from unseenfolds.kinds import KIND_NAMES, plain_value, under
from unseenfolds.losses import noticed, noticed_again, unnoticed, unnoticed_again
from unseenfolds.plans import Plan, class_length


def begins(one, other):
    return tuple(other[:len(one)]) == tuple(one)


def ends(one, other):
    return begins(one[::-1], other[::-1])


def loss_by_rule(kind, w, u, v):
    """Whether a loss is unnoticed, as point 63 says it."""
    if kind in ("list", "bag"):
        return not w
    if kind == "set":
        return set(w) <= set(u) | set(v)
    if kind == "heads":
        new = [[letter for letter in plain_value("heads", x) if letter not in u] for x in (w, v)]
        return begins(*new)
    if kind == "tails":
        rear = [[letter for letter in plain_value("tails", x) if letter not in v] for x in (w, u)]
        return ends(*rear)
    first = bool(not w or u or (v and v[0] == w[0]))
    last = bool(not w or v or (u and u[-1] == w[-1]))
    return {"first": first, "last": last, "ends": first and last}[kind]


def repeat_by_rule(kind, w, whole):
    """Whether a repeat is unnoticed, as point 64 says it."""
    if kind in ("list", "bag"):
        return not w
    if kind in ("last", "ends"):
        return not w or w[-1] == whole[-1]
    return kind != "tails" or ends(plain_value("tails", w), plain_value("tails", whole))


def joined(words):
    return tuple(letter for word in words for letter in word)


class AtALengthTest(FoldCase):
    def test_losses(self):
        for plan, length, kind in itertools.product(all_plans(), range(8), KIND_NAMES):
            words = plan.words_at(length)
            whole = run_value(kind, words, range(plan.many))
            for number in range(plan.many):
                rest = [other for other in range(plan.many) if other != number]
                told = run_value(kind, words, rest) == whole
                self.assertIs(unnoticed(kind, plan, number, length), told)
                rule = loss_by_rule(kind, words[number], joined(words[:number]), joined(words[number + 1:]))
                self.assertIs(rule, told, (kind, plan.text, number, length))

    def test_repeats(self):
        for plan, length, kind in itertools.product(all_plans(), range(8), KIND_NAMES):
            words = plan.words_at(length)
            whole = run_value(kind, words, range(plan.many))
            full = list(range(plan.many))
            for number in range(plan.many):
                runs = [full[:at] + [number] + full[at:] for at in range(number + 1, plan.many + 1)]
                told = all(run_value(kind, words, run) == whole for run in runs)
                self.assertIs(unnoticed_again(kind, plan, number, length), told)
                self.assertIs(repeat_by_rule(kind, words[number], joined(words)), told)

    def test_kinds_under_kinds(self):
        for plan, length in itertools.product(all_plans(), range(1, 6)):
            for number in range(plan.many):
                for call in (unnoticed, unnoticed_again):
                    told = {kind: call(kind, plan, number, length) for kind in KIND_NAMES}
                    for kind, other in itertools.product(KIND_NAMES, repeat=2):
                        if under(kind, other) and told[other]:
                            self.assertTrue(told[kind])

    def test_one_piece_and_empty_pieces(self):
        one, empty = Plan.read("same"), Plan.read("same\nfront 0\nsame")
        for kind in KIND_NAMES:
            self.assertEqual([unnoticed(kind, one, 0, length) for length in (0, 1, 2)], [True, False, False])
            self.assertEqual([unnoticed(kind, empty, 1, length) for length in (0, 1, 9)], [True] * 3)
            self.assertEqual([unnoticed_again(kind, empty, 1, length) for length in (0, 1, 9)], [True] * 3)
            told = kind not in ("list", "bag")
            self.assertEqual([unnoticed(kind, empty, number, 3) for number in (0, 2)], [told, told])
            self.assertEqual([unnoticed_again(kind, one, 0, length) for length in (0, 1, 5)], [True, told, told])

    def test_twelve_pieces(self):
        plan = Plan.read("\n".join([f"each 6 {number}" for number in range(6)] * 2))
        for kind in KIND_NAMES:
            told = [number for number in range(12) if not unnoticed(kind, plan, number, 30)]
            rule = {"list": list(range(12)), "bag": list(range(12)), "set": [], "first": [0], "last": [11],
                    "ends": [0, 11], "heads": [0, 1, 2, 3, 4], "tails": [7, 8, 9, 10, 11]}
            self.assertEqual(told, rule[kind])

    def test_lengths_of_400(self):
        plan = Plan.read("same\nturn\nsame")
        for kind in KIND_NAMES:
            told = [number for number in range(3) if not unnoticed(kind, plan, number, 400)]
            rule = {"list": [0, 1, 2], "bag": [0, 1, 2], "set": [], "first": [0], "last": [2], "ends": [0, 2],
                    "heads": [0], "tails": [2]}
            self.assertEqual(told, rule[kind])


class ForEverTest(FoldCase):
    def test_the_least_length(self):
        for plan, told in told_plans():
            for number, kind in itertools.product(range(plan.many), KIND_NAMES):
                for call, at in ((noticed, unnoticed), (noticed_again, unnoticed_again)):
                    worth = call(kind, plan, number)
                    lengths = range(told if worth is None else worth + 1)
                    self.assertEqual([n for n in lengths if not at(kind, plan, number, n)],
                                     [] if worth is None else [worth])

    def test_lengths_of_one_class(self):
        for plan, told in told_plans():
            for length in (told, told + 1, told + 5, 2 * told + 3):
                if length > 300:
                    continue
                for number, kind in itertools.product(range(plan.many), KIND_NAMES):
                    for at in (unnoticed, unnoticed_again):
                        answers = [at(kind, plan, number, n) for n in (length, class_length(plan, length))]
                        self.assertEqual(answers[0], answers[1])

    def test_a_late_length(self):
        # Lost letters behind the first 20: noticed from the length 21 on.
        plan = Plan.read("front 20\nsame")
        self.assertEqual([noticed(kind, plan, 1) for kind in KIND_NAMES], [1, 1, 21, None, 21, 21, 21, 21])
        self.assertEqual([noticed_again(kind, plan, 0) for kind in KIND_NAMES], [1, 1, None, None, 21, 21, None, 21])

    def test_just_400_and_just_above(self):
        plan = Plan.read(TOLD_400)
        self.assertEqual([noticed("first", plan, 0), noticed_again("set", plan, 0)], [1, None])
        for call, kind in itertools.product((noticed, noticed_again), KIND_NAMES):
            self.assert_raises_like(TooLarge("told"), call, kind, Plan.read(TOLD_401), 0)
        # What takes a length does not look at told.
        self.assertIs(unnoticed("set", Plan.read(f"{TOLD_401}\nsame"), 0, 99), True)


class ErrorTest(FoldCase):
    def test_errors_and_their_order(self):
        plan = Plan.read(f"{TOLD_401}\nsame")
        for thing in ("sets", "", None, 3, ["set"], True):
            for call in (unnoticed, unnoticed_again):
                self.assert_raises_like(BadKind(thing), call, thing, plan, 2, -1)
            for call in (noticed, noticed_again):
                self.assert_raises_like(BadKind(thing), call, thing, plan, 2)
        for kind, thing in itertools.product(KIND_NAMES, NOT_NODES + (2,)):
            for call in (unnoticed, unnoticed_again):
                self.assert_raises_like(NoPiece(thing), call, kind, plan, thing, -1)
            for call in (noticed, noticed_again):
                self.assert_raises_like(NoPiece(thing), call, kind, plan, thing)
        for kind, length in itertools.product(KIND_NAMES, (-1, -BIG)):
            for call in (unnoticed, unnoticed_again):
                self.assert_raises_like(BadLength(length), call, kind, plan, 1, length)


if __name__ == "__main__":
    unittest.main()
