"""Points 88 and 89: trials, and deeds that are told as tuples."""

import inspect
import unittest

from tests.helpers import NOT_NODES, Draws, FoldCase
from tests.planhelpers import small_plans
from tests.test_desks import answers, drawn_deed, made_desks, outcome_or_error
from unseenfolds.desks import Desk
from unseenfolds.errors import BadDeed, BadIndex, Closed, NoNode, NoPiece, NotReady, TooMany
from unseenfolds.kinds import KIND_NAMES
from unseenfolds.plans import Plan
from unseenfolds.trials import Trial, play, ready_without, take, tried


def new_desk(kind="list"):
    """Returns a desk whose net has the outcomes 6, 7 and 8, behind the arrival of the pieces 0 and 2."""
    desk = Desk(kind, Plan.read("block 3 0\nblock 3 1\nblock 3 2"), 6)
    desk.arrive(0)
    desk.arrive(2)
    return desk


class TrialTest(FoldCase):
    def test_a_block_that_ends(self):
        for kind in KIND_NAMES:
            desk = new_desk(kind)
            before = answers(desk)
            with Trial(desk) as held:
                self.assertIs(held, desk)
                desk.arrive(1)
                held.settle()
                desk.lose(6)
                self.assertNotEqual(answers(desk), before)
                desk.close()
            self.assertEqual(answers(desk), before)
            self.assertIs(desk.arrive(1), True)

    def test_a_block_that_ends_by_an_error(self):
        desk = new_desk()
        before = answers(desk)
        for error in (NoNode(99), KeyError("x"), KeyboardInterrupt()):
            with self.assertRaises(type(error)):
                with Trial(desk):
                    desk.bring(2)
                    desk.bring(3)
                    self.assertEqual(desk.settle(), 3)
                    desk.close()
                    raise error
            self.assertEqual(answers(desk), before)

    def test_blocks_that_are_left(self):
        desk = new_desk()
        before = answers(desk)

        def leave():
            with Trial(desk):
                desk.arrive(1)
                return desk.settle()

        self.assertEqual([leave(), answers(desk) == before], [2, True])
        for _ in range(2):
            with Trial(desk):
                desk.arrive(1)
                continue
        self.assertEqual(answers(desk), before)

    def test_it_is_as_when_the_block_was_entered(self):
        desk = new_desk()
        trial = Trial(desk)
        desk.arrive(1)
        desk.settle()
        before = answers(desk)
        with trial:
            desk.lose(6)
        self.assertEqual(answers(desk), before)

    def test_trials_within_trials(self):
        desk = new_desk()
        outer = answers(desk)
        with Trial(desk):
            desk.arrive(1)
            middle = answers(desk)
            with self.assertRaises(Closed):
                with Trial(desk) as one:
                    one.settle()
                    inner = answers(desk)
                    with Trial(desk) as two:
                        two.lose(9)
                        two.close()
                    self.assertEqual(answers(desk), inner)
                    one.close()
                    one.settle()
            self.assertEqual(answers(desk), middle)
        self.assertEqual(answers(desk), outer)

    def test_a_closed_desk(self):
        desk = new_desk()
        desk.close()
        before = answers(desk)
        with Trial(desk):
            self.assertEqual(desk.ready(), False)
        self.assertEqual(answers(desk), before)
        with Trial(new_desk()) as held:
            held.close()
            self.assertRaises(Closed, held.close)
        self.assertIs(held.closed, False)


class TakeTest(FoldCase):
    def test_each_deed(self):
        desk = new_desk()
        told = [take(desk, deed) for deed in (("arrive", 0), ("bring", 2), ("bring", 2), ("arrive", 1), ("lose", 2),
                                              ("settle",), ("settle",))]
        self.assertEqual(told, [False, True, False, True, None, 2, 0])
        self.assertEqual([desk.standing(), desk.made], [[6, 7, 8, 9, 10], 2])
        self.assertIsNone(take(desk, ("close",)))
        self.assertIs(desk.closed, True)

    def test_what_a_deed_raises(self):
        desk = new_desk()
        before = answers(desk)
        for thing in NOT_NODES:
            self.assert_raises_like(NoPiece(thing), take, desk, ("arrive", thing))
            self.assert_raises_like(BadIndex(thing), take, desk, ("bring", thing))
            self.assert_raises_like(NoNode(thing), take, desk, ("lose", thing))
        self.assert_raises_like(NotReady(), take, desk, ("settle",))
        self.assertEqual(answers(desk), before)
        desk.close()
        for deed in (("arrive", 9), ("bring", 9), ("lose", 9), ("settle",), ("close",)):
            self.assert_raises_like(Closed(), take, desk, deed)

    def test_other_words(self):
        for closed in (False, True):
            desk = new_desk()
            if closed:
                desk.close()
            before = answers(desk)
            others = ("", "arrives", "Arrive", "ready", "wants", "tried", "arrive bring", 3, ["close"], ("trial",))
            for word in NOT_NODES + others:
                self.assert_raises_like(BadDeed(word), take, desk, (word,))
                self.assert_raises_like(BadDeed(word), take, desk, (word, 0))
                self.assert_raises_like(BadDeed(word), tried, desk, [(word, [])])
            self.assertEqual(answers(desk), before)

    def test_trials(self):
        desk = new_desk()
        before = answers(desk)
        inner = ("trial", [("settle",), ("lose", 10), ("close",)])
        deed = ("trial", [("arrive", 1), inner, ("settle",), ("trial", [])])
        self.assertEqual(take(desk, deed), [True, [2, None, None], 2, []])
        self.assertEqual(answers(desk), before)
        desk.close()
        self.assertEqual(take(desk, ("trial", [])), [])
        self.assertEqual(take(desk, ("trial", [("trial", []), ("trial", [("trial", [])])])), [[], [[]]])
        self.assert_raises_like(Closed(), take, desk, ("trial", [("arrive", 1)]))

    def test_an_error_in_a_trial_within_a_trial(self):
        desk = new_desk()
        before = answers(desk)
        deed = ("trial", [("arrive", 1), ("trial", [("settle",), ("close",), ("lose", 0)]), ("bring", 0)])
        self.assert_raises_like(Closed(), take, desk, deed)
        self.assertEqual(answers(desk), before)
        self.assert_raises_like(BadDeed("x"), take, desk, ("trial", [("close",), ("x",)]))
        self.assertEqual(answers(desk), before)

    def test_20_trials_deep(self):
        desk = new_desk()
        before = answers(desk)
        deeds, told = [("arrive", 1), ("settle",)], [True, 2]
        for _ in range(20):
            deeds, told = [("bring", 0), ("trial", deeds), ("lose", 0)], [False, told, None]
        # Only the outermost trial finds the item absent.
        self.assertEqual(tried(desk, deeds), [True] + told[1:])
        self.assertEqual(answers(desk), before)

    def test_lists_handed_in_stay(self):
        desk, inner = new_desk(), [("arrive", 1)]
        deeds = [("trial", inner), ("settle",)]
        self.assert_raises_like(NotReady(), tried, desk, deeds)
        self.assertEqual([deeds, inner], [[("trial", [("arrive", 1)]), ("settle",)], [("arrive", 1)]])


class PlayTest(FoldCase):
    def test_each_when_its_answer_is_asked_for(self):
        self.assertTrue(inspect.isgeneratorfunction(play))
        desk = new_desk()
        row = play(desk, [("arrive", 1), ("settle",), ("lose", 10), ("close",)])
        self.assertEqual(desk.standing(), [6, 8])
        self.assertEqual([next(row), desk.standing()], [True, [6, 7, 8]])
        self.assertEqual([next(row), desk.standing(), desk.closed], [2, [6, 7, 8, 9, 10], False])
        self.assertEqual([list(row), desk.standing(), desk.closed], [[None, None], [6, 7, 8, 9], True])

    def test_the_deeds_before_one_that_raises_stay(self):
        desk = new_desk()
        self.assert_raises_like(BadDeed("x"), list, play(desk, [("arrive", 1), ("bring", 0), ("x",), ("close",)]))
        self.assertEqual([desk.standing(), desk.closed], [[0, 6, 7, 8], False])
        self.assertEqual(list(play(desk, [])), [])

    def test_against_the_methods(self):
        draws = Draws(379)
        for plan, desk in made_desks(small_plans()[::3], (2, 4)):
            twin = Desk(desk.kind, plan, desk.length)
            for _ in range(10):
                word, args = drawn_deed(draws, desk)
                told = outcome_or_error(getattr(desk, word), *args)
                self.assertEqual(outcome_or_error(take, twin, (word,) + args), told)
                self.assertEqual(answers(twin), answers(desk))


class TriedTest(FoldCase):
    def test_deeds_in_a_trial(self):
        draws = Draws(383)
        for plan, desk in made_desks(small_plans()[::3], (1, 4)):
            twin = Desk(desk.kind, plan, desk.length)
            for _ in range(4):
                word, args = drawn_deed(draws, desk)
                outcome_or_error(getattr(desk, word), *args)
                outcome_or_error(getattr(twin, word), *args)
            before = answers(desk)
            deeds = [(word,) + args for word, args in [drawn_deed(draws, desk) for _ in range(4)]]
            told = outcome_or_error(tried, desk, deeds)
            self.assertEqual(answers(desk), before)
            self.assertEqual(outcome_or_error(list, play(twin, deeds)), told)

    def test_the_error_goes_on_behind_the_trial(self):
        desk = new_desk()
        before = answers(desk)
        self.assert_raises_like(NoNode(6), tried, desk, [("lose", 6), ("lose", 6), ("close",)])
        self.assertEqual(answers(desk), before)
        self.assertEqual(tried(desk, []), [])


class ReadyWithoutTest(FoldCase):
    def test_by_rule(self):
        draws = Draws(389)
        for plan, desk in made_desks(small_plans()[::3], (2, 4)):
            for number in range(plan.many):
                desk.arrive(number)
            outcome_or_error(desk.settle)
            desk.bring(0)
            before = answers(desk)
            nodes = [node for node in desk.standing() if draws.below(2)][::-1]
            told = outcome_or_error(ready_without, desk, nodes)
            self.assertEqual(answers(desk), before)
            for node in nodes:
                desk.lose(node)
            self.assertEqual(outcome_or_error(desk.ready), told)

    def test_examples(self):
        for kind in KIND_NAMES:
            desk = new_desk(kind)
            desk.arrive(1)
            told = [ready_without(desk, nodes) for nodes in ([], [6], [7], [8], [8, 6, 7])]
            rule = {"first": [True, False, True, True, False], "last": [True, True, True, False, False],
                    "ends": [True, False, True, False, False]}
            self.assertEqual(told, rule.get(kind, [True] + [False] * 4))

    def test_errors(self):
        desk = new_desk()
        before = answers(desk)
        for nodes, thing in (([7], 7), ([6, 6], 6), ([6, True], True), ([None, 6], None), ([8, 99, 6], 99)):
            self.assert_raises_like(NoNode(thing), ready_without, desk, nodes)
            self.assertEqual(answers(desk), before)
        desk.close()
        self.assert_raises_like(Closed(), ready_without, desk, [6])
        self.assert_raises_like(Closed(), ready_without, desk, [99])
        self.assertIs(ready_without(desk, []), False)

    def test_settling_that_is_refused(self):
        desk = Desk("set", Plan.read("same\neach 2 0\neach 2 1"), 9)
        desk.arrive(1)
        desk.arrive(2)
        before = answers(desk)
        self.assert_raises_like(TooMany(9), tried, desk, [("arrive", 1), ("settle",)])
        self.assertEqual(answers(desk), before)


if __name__ == "__main__":
    unittest.main()
