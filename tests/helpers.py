"""What several test files need: a check of errors, small feeds with a plain way to run them, and small nets with
goals and losses, with a plain search for mendings."""

import itertools
import unittest

from unseenfolds.cells import told_of
from unseenfolds.feeds import Feed
from unseenfolds.goals import goal_letters
from unseenfolds.kinds import KIND_NAMES, merged_value, plain_value
from unseenfolds.nets import Net

BIG = 10 ** 59 + 12345

# Together with the feed same, these two are told of 400 and of 401.
TOLD_400 = "both (front 99) (both (front 95) (same))"
TOLD_401 = "both (front 99) (front 96)"


class FoldCase(unittest.TestCase):
    """A test case that checks an error together with its attributes."""

    def assert_raises_like(self, expected, call, *args, **named):
        """Fails unless the call raises an error of just this class with just these attributes."""
        try:
            result = call(*args, **named)
        except Exception as error:
            self.assertIs(type(error), type(expected), f"{error!r} instead of {expected!r}")
            self.assertEqual(repr(vars(error)), repr(vars(expected)))
        else:
            self.fail(f"{result!r} instead of {expected!r}")


def words_up_to(letters, size):
    """Returns all words of at most so many letters out of these."""
    return [word for many in range(size + 1) for word in itertools.product(letters, repeat=many)]


def run_part(part, things):
    """Returns what a part gives of a list, as point 13 says it."""
    word, many = part[0], len(things)
    if word == "same":
        return list(things)
    if word == "turn":
        return list(reversed(things))
    if word == "front":
        return [thing for place, thing in enumerate(things) if place < part[1]]
    if word == "rest":
        return [thing for place, thing in enumerate(things) if place >= part[1]]
    if word == "last":
        return [thing for place, thing in enumerate(things) if place >= many - part[1]]
    if word == "but":
        return [thing for place, thing in enumerate(things) if place < many - part[1]]
    if word == "each":
        return [thing for place, thing in enumerate(things) if place % part[1] == part[2]]
    if word == "block":
        k, i = part[1:]
        return [thing for place, thing in enumerate(things) if (i * many) // k <= place < ((i + 1) * many) // k]
    assert word == "both", word
    return run_parts(part[1], things) + run_parts(part[2], things)


def run_parts(parts, things):
    """Returns what the last part gives of a list."""
    result = list(things)
    for part in parts:
        result = run_part(part, result)
    return result


SIMPLE_PARTS = (
    ("same",), ("turn",), ("front", 0), ("front", 2), ("rest", 1), ("rest", 3), ("last", 1), ("last", 3),
    ("but", 0), ("but", 2), ("each", 1, 0), ("each", 2, 0), ("each", 2, 1), ("each", 3, 2),
    ("block", 1, 0), ("block", 2, 1), ("block", 3, 0), ("block", 3, 1),
)

NESTED_TEXTS = (
    "both (turn) (each 2 0)",
    "both (each 2 0) (each 2 1)",
    "both (block 3 2) (both (block 3 1) (block 3 0))",
    "rest 2; both (turn) (each 2 0)",
    "both (same) (turn); each 2 1",
    "both (front 2) (last 2); turn; rest 1",
    "both (each 3 1; turn) (block 2 0; each 2 1); but 1",
    "both (both (front 1) (rest 1)) (both (last 1) (but 1)); each 3 0",
    "each 4 3; block 3 1; both (turn; front 2) (last 1)",
    "both (turn) (both (same) (both (turn) (same))); both (each 2 1) (rest 4)",
)


def small_feeds():
    """Returns feeds of one part, of two parts, of two arms, and nested ones."""
    feeds = [Feed((part,)) for part in SIMPLE_PARTS]
    feeds = feeds + [Feed(pair) for pair in itertools.product(SIMPLE_PARTS, repeat=2)]
    feeds = feeds + [Feed((("both", (one,), (two,)),)) for one, two in itertools.product(SIMPLE_PARTS[1::2], repeat=2)]
    return feeds + [Feed.read(text) for text in NESTED_TEXTS]


def few_feeds():
    """Returns one feed of each part, some of two arms, and nested ones."""
    feeds = [Feed((part,)) for part in SIMPLE_PARTS]
    pairs = itertools.product(SIMPLE_PARTS[1::4], SIMPLE_PARTS[3::5])
    feeds = feeds + [Feed((("both", (one,), (two,)),)) for one, two in pairs]
    return feeds + [Feed.read(text) for text in NESTED_TEXTS]


PAIRS = (
    ("both (each 2 0) (same)", "both (each 2 0) (each 2 1)"),
    ("both (front 3) (rest 3)", "same"),
    ("both (turn) (same)", "turn"),
    ("both (same) (turn)", "both (same) (same)"),
    ("both (same) (front 4)", "both (same) (front 5)"),
    ("both (last 2) (same)", "both (last 2) (but 2)"),
    ("both (block 2 1) (block 2 0)", "both (rest 3) (front 3)"),
    ("turn; turn", "each 1 0"),
    ("front 4", "but 3"),
    ("both (same) (last 1)", "same"),
    ("both (front 1) (last 1)", "same"),
    ("both (each 3 0) (both (each 3 1) (each 3 2))", "both (each 3 0) (both (each 3 2) (each 3 1))"),
    ("both (rest 1; each 2 0) (each 2 0)", "both (each 2 1) (each 2 0)"),
    ("both (turn; each 2 0) (same)", "both (turn) (same)"),
    ("both (both (front 1) (last 1)) (turn)", "both (both (front 1) (last 1)) (same)"),
    ("both (each 2 0; turn) (both (front 2) (both (last 2) (turn)))",
     "both (each 2 0; turn) (both (front 2) (both (last 2) (same)))"),
)


def feed_pairs():
    """Returns pairs of feeds that are alike under some kinds and not under others."""
    return [(Feed.read(one), Feed.read(other)) for one, other in PAIRS]


def short_pairs():
    """Returns these pairs, and pairs of small feeds whose own told length is short."""
    feeds = [f for f in small_feeds() if told_of(f) <= 12][::3]
    return feed_pairs() + list(itertools.combinations(feeds, 2))[::5]


NOT_NODES = (-1, 10 ** 60, True, False, None, 0.0, 1.5, "0", (0,), [0], {0: 0}, b"0", object())


class Draws:
    """Numbers that look as if they were drawn, the same ones in each run."""

    def __init__(self, seed):
        self.state = seed

    def below(self, size):
        self.state = (self.state * 1103515245 + 12345) % 2 ** 31
        return (self.state >> 8) % size


def drawn_net(draws, width, merges):
    """Returns a net of this width with so many merges."""
    pairs = [(draws.below(width + j), draws.below(width + j)) for j in range(merges)]
    return Net(width, pairs)


def spread_net(draws, goal, width, merges):
    """Returns a net whose merges are mostly of neighbours in the goal, so that many nodes are useful."""
    goal = [letter for letter in goal if letter < width]
    pairs, words = [], [(item,) for item in range(width)]
    while len(pairs) < merges:
        one, other = draws.below(len(words)), draws.below(len(words))
        near = any(words[one][-1:] + words[other][:1] == tuple(goal[j:j + 2]) for j in range(len(goal)))
        if near or draws.below(6) == 0:
            pairs.append((one, other))
            words.append(words[one] + words[other])
    return Net(width, pairs)


def drawn_cases(many, seed, *, most_merges=5, most_width=4):
    """Returns so many tuples of a net, a simple goal and a loss; some goals have letters that are no items."""
    draws, cases = Draws(seed), []
    for number in range(many):
        width = 1 + draws.below(most_width)
        letters = list(range(width + (draws.below(5) == 0)))
        goal = [letters.pop(draws.below(len(letters))) for _ in range(1 + draws.below(len(letters)))]
        merges = draws.below(most_merges + 1)
        net = drawn_net(draws, width, merges) if number % 3 == 0 else spread_net(draws, goal, width, merges)
        odds = 1 + draws.below(4)
        loss = [node for node in range(net.size) if draws.below(4) < odds and (node < width or draws.below(2))]
        cases.append((net, goal, loss if number % 5 else []))
    return cases


def goals_under(kind, goal):
    """Returns the goal, and under idempotent kinds the goal with letters again."""
    if kind in ("list", "bag"):
        return [goal]
    return [goal, goal + goal[:1], [goal[-1]] + goal]


def joined_counts(kind, values, longest):
    """Returns a dict of the plain values, of so many letters at most, that rows of these plain values have joined.

    Each of them has the least number of such rows. This is point 42, without spans.
    """
    counts, fresh, many = {}, [()], 0
    while fresh:
        many, later = many + 1, []
        for old in fresh:
            for value in values:
                new = merged_value(kind, old, value)
                if len(new) <= longest and new not in counts:
                    counts[new] = many
                    later.append(new)
        fresh = later
    return counts


def searched_fewest(kind, net, goal, loss):
    """Returns the least number of parts of a mending, or None, by a search of all rows."""
    lost = set(loss)
    values = {plain_value(kind, word) for node, word in enumerate(net.words()) if node not in lost}
    whole = plain_value(kind, goal)
    # Under list and bag nothing that has more letters than the goal is a part of it.
    longest = len(whole) if kind in ("list", "bag") else net.width + 2
    return joined_counts(kind, sorted(values), longest).get(whole)


def searched_strength(kind, net, goal, loss):
    """Returns the least size of a blow, and the list of all blows of this size, by a search of all sets."""
    standing = [node for node in range(net.size) if node not in set(loss)]
    for many in range(len(standing) + 1):
        blows = [list(nodes) for nodes in itertools.combinations(standing, many)
                 if searched_fewest(kind, net, goal, sorted(list(loss) + list(nodes))) is None]
        if blows:
            return many, blows
    raise AssertionError("the set of all standing nodes is a blow")


def all_kinds_cases(many, seed, **sizes):
    """Returns tuples of a kind, a net, a goal and a loss."""
    return [(kind, net, one, loss) for net, goal, loss in drawn_cases(many, seed, **sizes)
            for kind in KIND_NAMES for one in goals_under(kind, goal)]


def drawn_spans(many, seed):
    """Returns so many tuples of a list of spans, in any order and with different nodes, and an end."""
    draws, told = Draws(seed), []
    for number in range(many):
        end = 1 + draws.below(6)
        nodes = list(range(40))
        spans = []
        for _ in range(draws.below(13)):
            begin = draws.below(end)
            stop = begin + 1 + draws.below(min(end - begin, 3))
            spans.append((nodes.pop(draws.below(len(nodes))), begin, stop))
        if number % 2:
            spans += [(nodes.pop(draws.below(len(nodes))), place, place + 1) for place in range(end)]
        told.append((spans, end))
    return told


def subsets(things):
    """Returns all lists of some of the things, the shorter ones first."""
    return [list(some) for many in range(len(things) + 1) for some in itertools.combinations(things, many)]


def table_by_rule(kind, net, goal, loss):
    """The letter table, as point 48 says it, by all rows of useful nodes."""
    t = goal_letters(kind, goal)
    standing = [node for node in range(net.size) if node not in loss]
    words = [net.word(node) for node in standing if set(net.word(node)) <= set(t)]
    sets = sorted({tuple(sorted(set(word))) for word in words if kind == "set" or len(set(word)) == len(word)})
    table = {(): 0}
    for many in range(1, len(t) + 1):
        for row in itertools.combinations(sets, many):
            joined = sorted(letter for letters in row for letter in letters)
            if kind == "set" or len(set(joined)) == len(joined):
                table.setdefault(tuple(sorted(set(joined))), many)
    return table
