"""Point 90: the listing of a desk."""

import unittest

from tests.helpers import Draws, FoldCase
from tests.planhelpers import small_plans
from tests.test_desks import answers, drawn_deed, made_desks, outcome_or_error
from unseenfolds.desks import Desk
from unseenfolds.kinds import plain_value
from unseenfolds.listings import desk_listing
from unseenfolds.plans import Plan


def listing_by_rule(desk):
    """The listing, as point 90 says it."""
    state = "closed" if desk.closed else "ready" if desk.ready() else "waits"
    rows = [desk.kind.ljust(6) + "".join(str(number).rjust(6) for number in (desk.length, desk.net.size, desk.made))
            + "  " + state]
    for number in range(desk.many):
        node = desk.outcome_of(number)
        word = "empty" if node is None else "stands" if node in desk.standing() else "absent"
        rows.append(str(number).rjust(6) + ("-" if node is None else str(node)).rjust(6) + "  " + word)
    for node in desk.standing():
        letters = " ".join(map(str, plain_value(desk.kind, desk.net.word(node))))
        rows.append(str(node).rjust(6) + str(desk.net.height(node)).rjust(6) + "  " + letters)
    return rows


class ListingTest(FoldCase):
    def test_the_example(self):
        desk = Desk("set", Plan.read("front 1\nrest 1"), 2)
        desk.arrive(1)
        told = ["set        2     2     0  waits", "     0     0  absent", "     1     1  stands", "     1     0  1"]
        self.assertEqual(desk_listing(desk), told)

    def test_each_line(self):
        desk = Desk("heads", Plan.read("rest 1\nfront 0\nturn"), 3)
        self.assertEqual(desk_listing(desk), [
            "heads      3     6     0  waits",
            "     0     3  absent",
            "     1     -  empty",
            "     2     5  absent",
        ])
        for deed in (desk.bring(0), desk.arrive(0)):
            self.assertIs(deed, True)
        self.assertEqual(desk_listing(desk), [
            "heads      3     6     0  ready",
            "     0     3  stands",
            "     1     -  empty",
            "     2     5  absent",
            "     0     0  0",
            "     3     1  1 2",
        ])
        desk.settle()
        desk.arrive(2)
        desk.close()
        self.assertEqual(desk_listing(desk), [
            "heads      3     7     1  closed",
            "     0     3  stands",
            "     1     -  empty",
            "     2     5  stands",
            "     0     0  0",
            "     3     1  1 2",
            "     5     2  2 1 0",
            "     6     2  1 2 0",
        ])

    def test_plain_values_under_each_kind(self):
        told = {"set": "0 1 2", "first": "0", "last": "2", "ends": "0 2", "heads": "0 1 2", "tails": "0 1 2"}
        for kind in told:
            desk = Desk(kind, Plan.read("same"), 3)
            desk.arrive(0)
            desk.bring(1)
            item = "1 1" if kind == "ends" else "1"
            self.assertEqual(desk_listing(desk)[-2:], [f"     1     0  {item}", f"     4     2  {told[kind]}"])

    def test_by_rule(self):
        draws = Draws(397)
        for plan, desk in made_desks(small_plans(), (1, 2, 5)):
            for _ in range(6):
                word, args = drawn_deed(draws, desk)
                outcome_or_error(getattr(desk, word), *args)
            before = answers(desk)
            self.assertEqual(desk_listing(desk), listing_by_rule(desk))
            desk_listing(desk).clear()
            self.assertEqual(answers(desk), before)
            desk.close()
            self.assertEqual(desk_listing(desk), listing_by_rule(desk))
            self.assertTrue(desk_listing(desk)[0].endswith("  closed"))

    def test_long_words(self):
        for kind in ("list", "bag", "set"):
            desk = Desk(kind, Plan.read("block 2 0\nblock 2 1"), 400)
            for number in (0, 1):
                desk.arrive(number)
            desk.settle()
            self.assertEqual(desk_listing(desk), listing_by_rule(desk))
            # A little more than 400 letters is no error here.
            desk = Desk(kind, Plan.read("same"), 402)
            desk.arrive(0)
            letters = " ".join(map(str, range(402)))
            self.assertEqual(desk_listing(desk)[2], f"   802     9  {letters}")

    def test_all_twelve_pieces(self):
        desk = Desk("tails", Plan.read("\n".join([f"each 6 {number}" for number in range(6)] * 2)), 5)
        self.assertEqual(desk_listing(desk)[-2:], ["    10     4  absent", "    11     -  empty"])
        self.assertEqual(len(desk_listing(desk)), 13)


if __name__ == "__main__":
    unittest.main()
