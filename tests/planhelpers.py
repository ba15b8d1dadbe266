"""What the test files about plans and desks need: small plans, and plain searches of their runs."""

import itertools

from tests.helpers import Draws
from unseenfolds.errors import TooLarge
from unseenfolds.kinds import plain_value
from unseenfolds.plans import Plan, plan_told

PLAN_TEXTS = (
    "same",
    "front 0",
    "front 0\nlast 0",
    "front 2\nsame\nlast 2",
    "block 3 0\nblock 3 1\nblock 3 2",
    "each 3 0\neach 3 1\neach 3 2",
    "same\nsame\nsame",
    "same\nturn",
    "turn\nsame\nturn\nsame",
    "front 1\nrest 1",
    "last 1\nbut 1",
    "front 1\nfront 1\nlast 1\nlast 1",
    "front 0\nsame\nfront 0\nlast 1",
    "front 0\nrest 3\nfront 0\nrest 4",
    "both (front 1) (last 1)\nrest 1; but 1\nsame",
    "same\nboth (same) (turn)",
    "block 2 0\nblock 2 0\nblock 2 1\nblock 2 1",
    "front 1\nfront 2\nfront 3",
    "last 3\nlast 2\nlast 1",
    "front 2\nrest 1; front 2\nrest 2; front 2",
    "rest 1\neach 2 0\nsame",
    "each 2 0\neach 2 0\nturn; front 2\neach 2 0",
    "front 2; turn\nfront 2\nlast 2\nlast 2; turn",
    "both (same) (front 2)\nboth (turn) (last 1)\nsame",
    "front 1\nlast 1\nsame\nfront 1\nlast 1",
)

PIECES = (
    "same", "turn", "front 0", "front 1", "front 2", "rest 1", "rest 2", "last 1", "last 2", "but 1", "each 2 0",
    "each 2 1", "block 2 0", "block 2 1", "block 3 1", "both (front 1) (last 1)", "both (last 1) (front 1)",
    "front 2; turn", "both (same) (front 1)", "both (same) (turn)",
)


def small_plans():
    """Returns the plans of these texts."""
    return [Plan.read(text) for text in PLAN_TEXTS]


def drawn_plans(many, seed, *, most=4):
    """Returns so many plans of at most so many pieces; equal pieces stand in some of them."""
    draws, plans = Draws(seed), []
    for _ in range(many):
        texts = [PIECES[draws.below(len(PIECES))] for _ in range(1 + draws.below(most))]
        if draws.below(2):
            texts = texts[:most - 1] + [texts[draws.below(min(len(texts), most - 1))]]
        plans.append(Plan.read("\n".join(texts)))
    return plans


def all_plans():
    """Returns the small plans and some drawn ones."""
    return small_plans() + drawn_plans(40, 211)


def told_plans():
    """Returns the small plans whose told length is at most 400, each with this length."""
    rows = []
    for plan in small_plans():
        try:
            rows.append((plan, plan_told(plan)))
        except TooLarge:
            pass
    assert len(rows) > 15
    return rows


def run_value(kind, words, run):
    """Returns the plain value of the word of a run of pieces with these words."""
    return plain_value(kind, [letter for number in run for letter in words[number]])


def runs_without(many, lacks):
    """Returns all runs of so many pieces, in order, without at most so many of them."""
    least = max(many - lacks, 0)
    return [run for size in range(least, many + 1) for run in itertools.combinations(range(many), size)]


def runs_in_any_order(many, lacks):
    """Returns all runs of so many pieces, each at most once and in any order, without at most so many of them."""
    least = max(many - lacks, 0)
    return [run for size in range(least, many + 1) for run in itertools.permutations(range(many), size)]


def runs_with_repeats(many, more):
    """Returns all runs that have each of so many pieces, in any order, and at most so many further entries."""
    sizes = range(many, many + more + 1)
    return [run for size in sizes for run in itertools.product(range(many), repeat=size) if len(set(run)) == many]


def all_alike(kind, words, runs):
    """Returns True if all these runs of pieces are alike to the full run."""
    whole = run_value(kind, words, range(len(words)))
    return all(run_value(kind, words, run) == whole for run in runs)


def searched_tolerance(kind, words):
    """Returns the tolerance by point 65, by a search of all runs."""
    borne = [f for f in range(len(words) + 1) if all_alike(kind, words, runs_without(len(words), f))]
    return max(borne)
