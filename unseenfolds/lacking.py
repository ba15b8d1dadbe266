"""Whether a goal can be mended, what is missing, and which lost items would do."""

from unseenfolds.covers import uncovered
from unseenfolds.errors import BadLetter, NotRuns, TooMany
from unseenfolds.spans import Remains
from unseenfolds.ways import reached

MOST_LETTERS = 8


def mendable(net, kind, goal, *, loss=()):
    """Returns True if the goal can be mended. Raises TooMany under bag."""
    return missing(net, kind, goal, loss=loss) is None


def missing(net, kind, goal, *, loss=()):
    """Returns a tuple of a string and a value that tell what is missing, or None. Raises TooMany under bag."""
    return missing_in(Remains(net, kind, goal, loss=loss))


def missing_in(remains):
    """Returns what is missing in what stands, or None. Raises TooMany under bag."""
    if remains.kind == "list":
        return missing_places(remains)
    if remains.kind == "bag":
        return missing_places(remains) if remains.spanned else missing_sets(remains)
    if remains.kind == "set":
        letters = missing_letters(remains)
        return ("letter", letters[0]) if letters else None
    if remains.kind in ("heads", "tails"):
        bare = uncovered(remains.spans(), len(remains.goal))
        return ("place", bare[0]) if bare else None
    lacks = missing_ends(remains)
    return ("letter", lacks[0]) if lacks else None


def missing_places(remains):
    """Returns what is missing if spans have to lead from the begin to the end of the goal."""
    places = reached(remains.spans(), len(remains.goal))
    return None if len(remains.goal) in places else ("places", places)


def missing_sets(remains):
    """Returns what is missing under bag if the goal is not spanned. Raises TooMany."""
    check_letter_count(remains)
    table = letter_table(remains)
    return None if tuple(sorted(remains.goal)) in table else ("sets", table)


def missing_letters(remains):
    """Returns the ascending list of the letters of the goal that no useful node has."""
    rows = remains.nodes_at_places()
    return sorted([letter for letter, row in zip(remains.goal, rows) if not row])


def missing_ends(remains):
    """Returns, under an outer kind, the list of the letters of the goal that no front, or no back, stands for."""
    lacks = []
    if remains.kind != "last" and not remains.fronts():
        lacks.append(remains.goal[0])
    if remains.kind != "first" and not remains.backs():
        lacks.append(remains.goal[-1])
    return lacks


def check_letter_count(remains):
    """Raises TooMany if a letter table is needed for too many letters."""
    if len(remains.goal) > MOST_LETTERS:
        raise TooMany(len(remains.goal))


def check_runs(remains):
    """Raises NotRuns under bag if a useful node has no span."""
    if remains.kind == "bag" and not remains.spanned:
        runs = {node: True for node, _, _ in remains.spans()}
        raise NotRuns(min([node for node in remains.useful() if node not in runs]))


def check_items(remains):
    """Raises BadLetter if a letter of the goal is not an item."""
    letter = remains.stray_letter()
    if letter is not None:
        raise BadLetter(letter)


def letter_rows(remains):
    """Returns a dict from the ascending tuples of the letter table to rows of as few nodes as possible that make them.

    It is told under set and bag alone.
    """
    letters = [(node, [remains.goal[place] for place in places]) for node, places in remains.counted_places()]
    # Of nodes with the same letters one is enough.
    nodes = {tuple(sorted(row)): node for node, row in letters[::-1]}
    made = {(): ()}
    queue = [()]
    at = 0
    # In the order in which they are made, so that each tuple is made of as few nodes as possible.
    while at < len(queue):
        old = queue[at]
        at += 1
        for more in nodes:
            new = joined_letters(remains.kind, old, more)
            if new is not None and new not in made:
                made[new] = made[old] + (nodes[more],)
                queue.append(new)
    return made


def joined_letters(kind, one, other):
    """Returns the letters of both tuples, ascending; None under bag if a letter is in both."""
    letters = sorted(set(one + other))
    if kind == "bag" and len(letters) < len(one) + len(other):
        return None
    return tuple(letters)


def letter_table(remains):
    """Returns the letter table: a dict of ascending tuples of letters with their distances."""
    rows = letter_rows(remains)
    return {letters: len(rows[letters]) for letters in rows}


def wants(net, kind, goal, *, loss=()):
    """Returns the ascending list of the wanted items. Raises NotRuns and BadLetter."""
    remains = checked_remains(net, kind, goal, loss)
    if kind in ("list", "bag"):
        return sorted(gap_rows(remains)[-1])
    if kind == "set":
        return missing_letters(remains)
    if kind in ("heads", "tails"):
        return sorted([remains.goal[place] for place in uncovered(remains.spans(), len(remains.goal))])
    return sorted(set(missing_ends(remains)))


def want_table(net, kind, goal, *, loss=()):
    """Returns the want table, a list; None under all kinds but list and bag. Raises NotRuns and BadLetter."""
    remains = checked_remains(net, kind, goal, loss)
    if kind in ("list", "bag"):
        return [len(row) for row in gap_rows(remains)]
    return None


def checked_remains(net, kind, goal, loss):
    """Returns what stands. Raises NotRuns, then BadLetter."""
    remains = Remains(net, kind, goal, loss=loss)
    check_runs(remains)
    check_items(remains)
    return remains


def gap_rows(remains):
    """Returns, for each place, a row of as few lost items as possible that are gaps on a way to it from 0."""
    goal = remains.goal
    steps_on = [(begin, stop, ()) for _, begin, stop in remains.spans()]
    steps_on = steps_on + [(place, place + 1, (goal[place],)) for place in remains.lost_places()]
    rows = [()] + [None for _ in goal]
    # Each letter is an item, standing or lost, so each place has a row before a step leads on from it.
    for begin, stop, letters in sorted(steps_on):
        row = rows[begin] + letters
        if rows[stop] is None or len(row) < len(rows[stop]):
            rows[stop] = row
    return rows
