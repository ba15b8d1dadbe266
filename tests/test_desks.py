"""Points 81 to 87: desks, what stands at them, their deeds and answers."""

import itertools
import unittest

from tests.helpers import BIG, NOT_NODES, Draws, FoldCase, subsets
from tests.planhelpers import all_plans, drawn_plans, small_plans
from unseenfolds.cells import together
from unseenfolds.costs import results_net
from unseenfolds.desks import Desk
from unseenfolds.errors import (BadIndex, BadKind, BadLength, Closed, EmptyWord, FoldError, NoNode, NoPiece, NotReady,
                                NotSimple, TooMany)
from unseenfolds.feeds import Feed
from unseenfolds.folds import fold_letters
from unseenfolds.kinds import FULL_KINDS, KIND_NAMES, alike, plain_value, under
from unseenfolds.lacking import mendable, wants
from unseenfolds.mending import Mending
from unseenfolds.plans import Plan, plan_base
from unseenfolds.strengths import strength_of
from unseenfolds.tables import Table
from unseenfolds.tolerances import tolerance
from unseenfolds.unders import merges_under

TABLES = (
    Table([[0, 1], [1, 1]]), Table([[0, 0], [1, 1]]), Table([[0, 1], [0, 1]]), Table([[0, 1, 2], [1, 2, 0], [2, 0, 1]]),
    Table([[0, 1, 2], [1, 1, 1], [2, 2, 2]]), Table([[0, 1, 2], [1, 1, 2], [2, 1, 2]]),
    Table([[0, 1, 2, 3], [1, 1, 3, 3], [2, 2, 2, 2], [3, 3, 3, 3]]), Table([[0, 0, 1, 1], [0, 0, 1, 1], [2, 2, 3, 3],
                                                                           [2, 2, 3, 3]]),
)


def outcome_or_error(call, *args):
    """What a call returns, or the error that it raises, as comparable things."""
    try:
        return call(*args)
    except FoldError as error:
        return (type(error).__name__, repr(vars(error)))


def answers(desk):
    """All that a desk answers."""
    return [
        desk.kind, desk.length, desk.goal, desk.net.width, desk.net.pairs(), desk.many, desk.made, desk.closed,
        desk.standing(), desk.lost(), list(desk), [desk.outcome_of(number) for number in range(desk.many)],
        outcome_or_error(desk.ready), desk.answer(), outcome_or_error(desk.wants), outcome_or_error(desk.bears),
    ]


def made_desks(plans, lengths):
    """Desks of these plans under all kinds, where the plan's word is a goal."""
    desks = []
    for plan, length, kind in itertools.product(plans, lengths, KIND_NAMES):
        try:
            desks.append((plan, Desk(kind, plan, length)))
        except (EmptyWord, NotSimple):
            pass
    return desks


class MakingTest(FoldCase):
    def test_a_new_desk(self):
        for plan, desk in made_desks(all_plans(), range(1, 6)):
            net, results = results_net(plan, desk.length)
            self.assertEqual([desk.net.width, desk.net.pairs(), desk.net.size], [desk.length, net.pairs(), net.size])
            self.assertEqual([desk.goal, desk.many, desk.made], [plan.word_at(desk.length), plan.many, 0])
            self.assertEqual([desk.standing(), desk.lost(), list(desk)], [[], list(range(net.size)), []])
            self.assertEqual([desk.outcome_of(number) for number in range(plan.many)], results)
            self.assertIs(desk.closed, False)
            self.assertIs(desk.answer(), None)
            self.assertIs(desk.bears(), None)

    def test_attributes(self):
        desk = Desk("set", Plan.read("same"), 3)
        self.assertEqual([vars(desk)["kind"], vars(desk)["length"]], ["set", 3])
        self.assertIsInstance(desk.goal, tuple)

    def test_errors_and_their_order(self):
        twice, empty = Plan.read("same\nlast 1"), Plan.read("front 0")
        for thing in ("sets", "", None, 3, ["set"], True):
            self.assert_raises_like(BadKind(thing), Desk, thing, empty, 0)
        for kind in KIND_NAMES:
            for length in (0, -1, -BIG):
                self.assert_raises_like(BadLength(length), Desk, kind, empty, length)
                self.assert_raises_like(BadLength(length), Desk, kind, twice, length)
            self.assert_raises_like(EmptyWord(), Desk, kind, empty, 3)
            self.assert_raises_like(EmptyWord(), Desk, kind, Plan.read("rest 2\nrest 4"), 2)
        for kind in ("list", "bag"):
            self.assert_raises_like(NotSimple(2), Desk, kind, twice, 3)
            self.assert_raises_like(NotSimple(0), Desk, kind, Plan.read("same\nturn"), 1)

    def test_the_plan_may_be_joined_later(self):
        pieces = [Feed.read("front 1"), Feed.read("rest 1")]
        desk = Desk("list", Plan(pieces), 3)
        pieces.clear()
        self.assertEqual([desk.many, desk.goal, desk.arrive(1)], [2, (0, 1, 2), True])


class DeedTest(FoldCase):
    def test_the_example(self):
        desk = Desk("list", Plan.read("block 3 0\nblock 3 1\nblock 3 2"), 6)
        told = [desk.arrive(2), desk.arrive(0), desk.ready(), desk.wants(), desk.arrive(1), desk.settle(), desk.bears()]
        self.assertEqual(told, [True, True, False, [2, 3], True, 2, 1])

    def test_arrivals(self):
        desk = Desk("set", Plan.read("block 2 0\nfront 0\nblock 2 1\nblock 2 0\nlast 1"), 4)
        self.assertEqual([desk.outcome_of(number) for number in range(5)], [4, None, 5, 6, 3])
        told = [desk.arrive(0), desk.arrive(0), desk.arrive(1), desk.arrive(4), desk.arrive(2), desk.arrive(3)]
        self.assertEqual(told, [True, False, False, True, True, True])
        self.assertEqual([desk.standing(), desk.lost()], [[3, 4, 5, 6], [0, 1, 2]])

    def test_one_letter_twice(self):
        # The outcome of a piece of one letter is the item itself.
        desk = Desk("set", Plan.read("front 1\nfront 1\nrest 1"), 3)
        self.assertEqual([desk.arrive(0), desk.arrive(1), desk.bring(0), desk.standing()], [True, False, False, [0]])

    def test_bring_and_lose(self):
        desk = Desk("heads", Plan.read("same"), 3)
        self.assertEqual([desk.bring(2), desk.bring(0), desk.bring(2), desk.standing()], [True, True, False, [0, 2]])
        self.assertIsNone(desk.lose(2))
        self.assertEqual([desk.standing(), desk.wants(), desk.bears()], [[0], [1, 2], None])
        self.assertEqual([desk.arrive(0), desk.lose(0), desk.bears(), desk.answer()], [True, None, 0, 4])
        self.assert_raises_like(NoNode(0), desk.lose, 0)

    def test_what_is_not_there(self):
        desk = Desk("set", Plan.read("same\nrest 1"), 3)
        desk.arrive(0)
        before = answers(desk)
        for thing in NOT_NODES + (2,):
            self.assert_raises_like(NoPiece(thing), desk.arrive, thing)
            self.assert_raises_like(NoPiece(thing), desk.outcome_of, thing)
        for thing in NOT_NODES + (3,):
            self.assert_raises_like(BadIndex(thing), desk.bring, thing)
        for thing in NOT_NODES + (0, 3, 5, 6):
            self.assert_raises_like(NoNode(thing), desk.lose, thing)
        self.assertEqual(answers(desk), before)

    def test_settle(self):
        desk = Desk("list", Plan.read("block 3 0\nblock 3 1\nblock 3 2"), 9)
        self.assert_raises_like(NotReady(), desk.settle)
        for number in (1, 2):
            desk.arrive(number)
        self.assert_raises_like(NotReady(), desk.settle)
        desk.arrive(0)
        size = desk.net.size
        self.assertEqual([desk.settle(), desk.made, desk.net.size, desk.answer()], [2, 2, size + 2, size + 1])
        self.assertEqual([desk.net.word(size + 1), desk.standing()[-2:]], [tuple(range(9)), [size, size + 1]])
        before = answers(desk)
        self.assertEqual([desk.settle(), desk.settle()], [0, 0])
        self.assertEqual(answers(desk), before)
        # Lost again, it is made again, of what stands by then.
        desk.lose(size + 1)
        self.assertEqual([desk.settle(), desk.made, desk.answer()], [1, 3, size + 2])

    def test_one_piece_is_the_answer(self):
        for kind in KIND_NAMES:
            desk = Desk(kind, Plan.read("same"), 4)
            desk.arrive(0)
            self.assertEqual([desk.settle(), desk.made, desk.answer(), desk.bears()], [0, 0, 6, 0])

    def test_too_many_letters(self):
        plan = Plan.read("same\neach 2 0\neach 2 1")
        for length in (8, 9):
            desk = Desk("set", plan, length)
            desk.arrive(1)
            told = [desk.ready(), desk.wants(), desk.bears(), desk.answer()]
            self.assertEqual(told, [False, list(range(1, length, 2)), None, None])
            self.assert_raises_like(NotReady(), desk.settle)
            desk.arrive(2)
            self.assertEqual([desk.ready(), desk.wants(), desk.bears(), desk.answer()], [True, [], 0, None])
            before = answers(desk)
            if length == 8:
                self.assertEqual([desk.settle(), desk.made], [1, 1])
            else:
                self.assert_raises_like(TooMany(9), desk.settle)
                self.assertEqual(answers(desk), before)
                # With the whole word there is an answer, and nothing is looked for.
                desk.arrive(0)
                self.assertEqual([desk.settle(), desk.answer()], [0, desk.outcome_of(0)])

    def test_pieces_of_simple_plans_are_runs(self):
        plan = Plan.read("each 3 0\neach 3 2\neach 3 1")
        desk = Desk("bag", plan, 12)
        for number in (2, 0):
            desk.arrive(number)
        self.assertEqual([desk.ready(), desk.wants(), desk.bears()], [False, [2, 5, 8, 11], None])
        for item in desk.wants():
            desk.bring(item)
        self.assertEqual([desk.ready(), desk.bears(), desk.settle(), desk.bears()], [True, 0, 5, 2])

    def test_closed_desks(self):
        for kind in KIND_NAMES:
            desk = Desk(kind, Plan.read("block 2 0\nblock 2 1"), 4)
            desk.arrive(0)
            desk.arrive(1)
            open_answers = answers(desk)
            self.assertIsNone(desk.close())
            self.assertIs(desk.closed, True)
            before = answers(desk)
            self.assertEqual(before[:7] + before[8:], open_answers[:7] + open_answers[8:])
            for thing in NOT_NODES + (0, 1, 4):
                for deed in (desk.arrive, desk.bring, desk.lose):
                    self.assert_raises_like(Closed(), deed, thing)
            for deed in (desk.settle, desk.close):
                self.assert_raises_like(Closed(), deed)
            self.assertEqual(answers(desk), before)
            self.assert_raises_like(NoPiece(2), desk.outcome_of, 2)

    def test_each_list_is_new(self):
        desk = Desk("heads", Plan.read("block 2 0\nblock 2 1"), 4)
        desk.arrive(0)
        before = answers(desk)
        for handed_out in (desk.standing(), desk.lost(), desk.wants(), desk.net.pairs()):
            handed_out.clear()
        self.assertEqual(answers(desk), before)
        net, standing = desk.net, desk.standing()
        desk.arrive(1)
        desk.settle()
        self.assertEqual([net.merge_count, standing, desk.standing()], [2, [4], [4, 5, 6]])


def drawn_deed(draws, desk):
    """Returns the name of a method of a desk and its arguments, often ones that it takes."""
    word = ("arrive", "arrive", "bring", "lose", "lose", "settle")[draws.below(6)]
    if word == "arrive":
        return word, (draws.below(desk.many + 1),)
    if word == "bring":
        return word, (draws.below(desk.length + 1),)
    if word == "lose":
        standing = desk.standing()
        return word, (standing[draws.below(len(standing))] if standing and draws.below(4) else draws.below(8),)
    return word, ()


class ModelTest(FoldCase):
    """Drawn deeds against a net, a kind, a goal and a loss."""

    def check_answers(self, desk, net, stand):
        loss = [node for node in range(net.size) if node not in stand]
        self.assertEqual([desk.net.width, desk.net.pairs()], [net.width, net.pairs()])
        self.assertEqual([desk.standing(), list(desk), desk.lost()], [sorted(stand), sorted(stand), loss])
        goal = desk.goal
        self.assertEqual(outcome_or_error(desk.ready),
                         outcome_or_error(lambda: mendable(net, desk.kind, goal, loss=loss)))
        self.assertEqual(outcome_or_error(desk.wants), outcome_or_error(lambda: wants(net, desk.kind, goal, loss=loss)))
        strength = outcome_or_error(lambda: strength_of(net, desk.kind, goal, loss=loss))
        told = strength if isinstance(strength, tuple) else strength - 1 if strength else None
        self.assertEqual(outcome_or_error(desk.bears), told)
        whole = [node for node in sorted(stand) if alike(desk.kind, net.word(node), goal)]
        self.assertEqual(desk.answer(), whole[0] if whole else None)

    def check_settle(self, desk, net, stand):
        """Returns the net behind a settle, and what stands then."""
        loss = [node for node in range(net.size) if node not in stand]
        if desk.answer() is not None:
            self.assertEqual(desk.settle(), 0)
            return net, stand
        try:
            if not mendable(net, desk.kind, desk.goal, loss=loss):
                self.assert_raises_like(NotReady(), desk.settle)
                return net, stand
            mending = Mending(net, desk.kind, desk.goal, loss=loss)
        except TooMany as error:
            self.assert_raises_like(error, desk.settle)
            return net, stand
        made, before, borne = mending.mended()[0], desk.made, outcome_or_error(desk.bears)
        self.assertEqual([desk.settle(), desk.made], [mending.fewest - 1, before + mending.fewest - 1])
        self.assertEqual([desk.net.pairs(), desk.net.merge_count - net.merge_count], [made.pairs(), mending.fewest - 1])
        answer = desk.answer()
        self.assertTrue(alike(desk.kind, desk.net.word(answer), desk.goal))
        if desk.kind in FULL_KINDS:
            self.assertGreaterEqual(len(merges_under(desk.net, answer)), len(fold_letters(desk.kind, desk.goal)) - 1)
        if isinstance(borne, int):
            self.assertGreater(desk.bears(), borne)
        self.check_results(desk, answer)
        return made, stand | set(range(net.size, made.size))

    def check_results(self, desk, answer):
        """The result of the answer is the fold of the goal, for tables of the kind."""
        draws = Draws(len(desk.net.pairs()) + 7 * desk.length)
        for table in TABLES:
            if table.fault(desk.kind) is None:
                row = [draws.below(table.order) for _ in range(desk.length)]
                told = table.fold([row[letter] for letter in desk.goal])
                self.assertEqual(desk.net.results(table, row)[answer], told)

    def do_deed(self, draws, desk, net, stand):
        """Does a drawn deed; returns the net behind it, and what stands then."""
        word, args = drawn_deed(draws, desk)
        before = answers(desk)
        if word == "settle":
            return self.check_settle(desk, net, stand)
        if word == "arrive" and args[0] == desk.many:
            self.assert_raises_like(NoPiece(args[0]), desk.arrive, *args)
        elif word == "bring" and args[0] == desk.length:
            self.assert_raises_like(BadIndex(args[0]), desk.bring, *args)
        elif word == "lose" and args[0] not in stand:
            self.assert_raises_like(NoNode(args[0]), desk.lose, *args)
        elif word == "lose":
            borne = before[-1]
            self.assertIsNone(desk.lose(*args))
            if isinstance(borne, int):
                behind = outcome_or_error(desk.bears)
                self.assertIn(behind, (borne, borne - 1) if borne else (0, None))
            return net, stand - set(args)
        else:
            node = args[0] if word == "bring" else desk.outcome_of(args[0])
            self.assertIs(getattr(desk, word)(*args), node is not None and node not in stand)
            return net, stand | {node} if node is not None else stand
        # A deed that raises has changed nothing.
        self.assertEqual(answers(desk), before)
        return net, stand

    def test_drawn_deeds(self):
        draws, settled = Draws(337), 0
        for plan, desk in made_desks(small_plans()[::2] + drawn_plans(15, 347), (1, 3, 5)):
            net, stand = desk.net, set()
            for _ in range(12):
                net, stand = self.do_deed(draws, desk, net, stand)
                self.check_answers(desk, net, stand)
            settled += desk.made
        self.assertGreater(settled, 20)

    def test_200_deeds(self):
        draws = Draws(349)
        for kind in KIND_NAMES:
            desk = Desk(kind, Plan.read("\n".join([f"block 4 {number}" for number in (0, 1, 2, 3)])), 60)
            net, stand = desk.net, set()
            for number in range(200):
                word, args = drawn_deed(draws, desk)
                outcome_or_error(getattr(desk, word), *args)
            self.assertEqual(sorted(desk.standing() + desk.lost()), list(range(desk.net.size)))
            self.assertTrue(stand <= set(desk.standing()) and net.size <= desk.net.size)


class ArrivalTest(FoldCase):
    def test_some_run_of_what_arrived(self):
        for plan, desk in made_desks(small_plans(), (1, 2, 4)):
            if plan.many > 4:
                continue
            words = plan.words_at(desk.length)
            for some in subsets(range(plan.many)):
                fresh = Desk(desk.kind, plan, desk.length)
                for number in some[::-1] + some[:1]:
                    fresh.arrive(number)
                outcomes = {fresh.outcome_of(number) for number in some} - {None}
                self.assertEqual(fresh.standing(), sorted(outcomes))
                # A run of as few entries as there are fold letters is enough, or one of each piece.
                runs = [run for many in range(1, len(some) + 3) for run in itertools.product(some, repeat=many)][:2000]
                values = {plain_value(desk.kind, [letter for number in run for letter in words[number]])
                          for run in runs}
                self.assertIs(fresh.ready(), plain_value(desk.kind, desk.goal) in values)

    def test_all_or_all_but_what_is_borne(self):
        for plan, desk in made_desks(small_plans(), (1, 2, 4)):
            borne = tolerance(desk.kind, plan, desk.length)
            for some in subsets(range(plan.many)):
                if len(some) >= plan.many - borne:
                    fresh = Desk(desk.kind, plan, desk.length)
                    for number in some:
                        fresh.arrive(number)
                    self.assertIs(fresh.ready(), True)

    def test_the_first_settle(self):
        for text in ("block 3 0\nblock 3 1\nblock 3 2", "front 1\nrest 1", "each 2 1\neach 2 0\nfront 0", "same"):
            plan = Plan.read(text)
            for kind, length in itertools.product(FULL_KINDS, (1, 2, 5, 8)):
                desk = Desk(kind, plan, length)
                for number in range(plan.many):
                    desk.arrive(number)
                self.assertEqual(desk.settle(), len([word for word in plan.words_at(length) if word]) - 1)

    def test_lengths_of_one_class(self):
        for text in ("block 2 0\nblock 2 1", "front 1\nrest 1\nlast 1", "same\nfront 1"):
            plan = Plan.read(text)
            feeds = plan.pieces() + [Feed.same()]
            cycle, base = together(*feeds).modulus * together(*feeds).stride, plan_base(plan)
            for length, kind in itertools.product((base, base + 1), KIND_NAMES):
                for some in subsets(range(plan.many)):
                    try:
                        desks = [Desk(kind, plan, n) for n in (length, length + cycle)]
                    except NotSimple:
                        continue
                    for desk, number in itertools.product(desks, some):
                        desk.arrive(number)
                    self.assertEqual(desks[0].ready(), desks[1].ready())
                    if kind == "set":
                        self.assertEqual(desks[0].bears(), desks[1].bears())


class WantTest(FoldCase):
    def test_bringing_them_makes_it_ready_and_fewer_do_not(self):
        draws = Draws(353)
        for plan, desk in made_desks(small_plans()[::2], (2, 4)):
            for number in range(plan.many):
                if draws.below(2):
                    desk.arrive(number)
            wanted = outcome_or_error(desk.wants)
            if isinstance(wanted, tuple):
                continue
            for some in subsets(range(desk.length)):
                fresh = Desk(desk.kind, plan, desk.length)
                for number in range(plan.many):
                    if fresh.outcome_of(number) in desk.standing():
                        fresh.arrive(number)
                for item in some:
                    fresh.bring(item)
                ready = outcome_or_error(fresh.ready)
                if len(some) < len(wanted):
                    self.assertIs(ready, False)
                elif some == wanted:
                    self.assertIs(ready, True)

    def test_blocks_and_deals(self):
        for k, length in itertools.product((1, 2, 3, 4), (1, 2, 3, 6, 7)):
            for part in ("block", "each"):
                plan = Plan.read("\n".join([f"{part} {k} {number}" for number in range(k)]))
                words = plan.words_at(length)
                for kind, some in itertools.product(KIND_NAMES, subsets(range(k))):
                    if part == "each" and kind not in FULL_KINDS:
                        continue
                    desk = Desk(kind, plan, length)
                    for number in some:
                        desk.arrive(number)
                    filled = [number for number in range(k) if words[number]]
                    if kind in FULL_KINDS:
                        left = sorted(letter for number in range(k) if number not in some for letter in words[number])
                        self.assertEqual(desk.wants(), left)
                        self.assertIs(desk.ready(), set(filled) <= set(some))
                    elif kind != "ends":
                        self.assertIs(desk.ready(), filled[0 if kind == "first" else -1] in some)


class BearsTest(FoldCase):
    def test_against_all_losses(self):
        draws = Draws(359)
        for plan, desk in made_desks(small_plans()[::3], (2, 3)):
            for number in range(plan.many):
                desk.arrive(number)
            desk.bring(draws.below(desk.length))
            borne = outcome_or_error(desk.bears)
            if isinstance(borne, tuple):
                continue
            self.assertIsNotNone(borne)
            goal, net = desk.goal, desk.net
            for some in subsets(desk.standing()):
                loss = sorted(desk.lost() + some)
                if len(some) <= borne:
                    self.assertTrue(mendable(net, desk.kind, goal, loss=loss))
            self.assertTrue(any(not mendable(net, desk.kind, goal, loss=sorted(desk.lost() + some))
                                for some in subsets(desk.standing()) if len(some) == borne + 1))

    def test_deeds_that_give(self):
        draws = Draws(367)
        for plan, desk in made_desks(small_plans()[::2], (1, 3)):
            for _ in range(8):
                before = [outcome_or_error(desk.ready), outcome_or_error(desk.bears)]
                word = ("arrive", "bring", "settle")[draws.below(3)]
                args = () if word == "settle" else (draws.below(desk.many if word == "arrive" else desk.length),)
                made = outcome_or_error(getattr(desk, word), *args)
                behind = [outcome_or_error(desk.ready), outcome_or_error(desk.bears)]
                if before[0] is True:
                    self.assertIs(behind[0], True)
                if isinstance(before[1], int) and isinstance(behind[1], int):
                    self.assertGreaterEqual(behind[1], before[1] + (word == "settle" and made != 0))


class KindTest(FoldCase):
    def test_kinds_under_kinds(self):
        draws = Draws(373)
        for plan, length in itertools.product(small_plans(), (1, 3, 4)):
            deeds = []
            for _ in range(5):
                word = ("arrive", "bring")[draws.below(2)]
                deeds.append((word, draws.below(plan.many if word == "arrive" else length)))
            desks = {}
            for kind in KIND_NAMES:
                try:
                    desks[kind] = Desk(kind, plan, length)
                except (EmptyWord, NotSimple):
                    continue
                for word, number in deeds:
                    getattr(desks[kind], word)(number)
                if desks[kind].standing():
                    desks[kind].lose(desks[kind].standing()[0])
            for kind, other in itertools.product(desks, repeat=2):
                if not under(kind, other):
                    continue
                one, two = desks[kind], desks[other]
                if two.ready():
                    self.assertTrue(one.ready())
                told = [outcome_or_error(one.wants), outcome_or_error(two.wants)]
                if all(isinstance(row, list) for row in told):
                    self.assertLessEqual(len(told[0]), len(told[1]))
                told = [outcome_or_error(one.bears), outcome_or_error(two.bears)]
                if isinstance(told[1], int) and not isinstance(told[0], tuple):
                    self.assertGreaterEqual(told[0], told[1])


if __name__ == "__main__":
    unittest.main()
