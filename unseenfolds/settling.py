"""Settled goals: whether what stands tells the result of a goal, and what shows that it does not."""

from unseenfolds.errors import BadKind, TooMany
from unseenfolds.lacking import check_items, missing_in
from unseenfolds.spans import Remains
from unseenfolds.tables import Table
from unseenfolds.witnesses import GREATER_ROWS, LEFT_ROWS, RIGHT_ROWS

MOST_PLACES = 5


def settled(net, kind, goal, *, loss=()):
    """Returns True if the goal is settled. Raises BadKind for bag too, and BadLetter."""
    return is_settled(settling_remains(net, kind, goal, loss))


def unsettled(net, kind, goal, *, loss=()):
    """Returns None if the goal is settled, otherwise a tuple of a Table and two rows. Raises as settled, and TooMany.

    With each of the two rows the standing nodes have the same results, but the goal has not.
    """
    remains = settling_remains(net, kind, goal, loss)
    if is_settled(remains):
        return None
    if len(remains.goal) > MOST_PLACES:
        raise TooMany(len(remains.goal))
    if kind == "list":
        rows, one, other, stray = linked_rows(remains)
    elif kind in ("heads", "tails"):
        rows, one, other, stray = followed_rows(remains)
    else:
        rows, one, other, stray = marked_rows(remains)
    entries = [(one.get(item, stray), other.get(item, stray)) for item in range(net.width)]
    return (Table(rows), [entry[0] for entry in entries], [entry[1] for entry in entries])


def settling_remains(net, kind, goal, loss):
    """Returns what stands. Raises BadKind for bag too, and BadLetter."""
    if kind == "bag":
        raise BadKind(kind)
    remains = Remains(net, kind, goal, loss=loss)
    check_items(remains)
    return remains


def is_settled(remains):
    """Returns True if the goal is settled by what stands."""
    if remains.kind == "list":
        return len(remains.goal) in linked_places(remains.spans(), len(remains.goal))
    return missing_in(remains) is None


def linked_places(spans, end):
    """Returns a dict of the places that are reached from 0 if each span leads back, too."""
    linked = {0: True}
    # Each round links at least one more place, or no later one does.
    for _ in range(end):
        for _, begin, stop in spans:
            if begin in linked or stop in linked:
                linked[begin] = True
                linked[stop] = True
    return linked


def linked_rows(remains):
    """Returns the rows of a table for list, the entries of the letters in both rows, that of other items.

    The table merges spans that meet and adds their turns. In the second row a letter has a turn if it leads into the
    linked places or out of them: the turns of all standing nodes cancel out, those of the goal do not.
    """
    many = len(remains.goal)
    linked = linked_places(remains.spans(), many)
    marks = [None] + [(begin, stop, turn) for stop in range(many + 1) for begin in range(stop) for turn in (0, 1)]
    numbers = {mark: number for number, mark in enumerate(marks)}
    one, other = {}, {}
    for place, letter in enumerate(remains.goal):
        turn = 1 if (place in linked) != (place + 1 in linked) else 0
        one[letter] = numbers[(place, place + 1, 0)]
        other[letter] = numbers[(place, place + 1, turn)]
    rows = [[numbers[linked_marks(left, right)] for right in marks] for left in marks]
    return (rows, one, other, numbers[None])


def linked_marks(left, right):
    """Merges two spans with their turns; None is what all else gives."""
    if left is None or right is None or left[1] != right[0]:
        return None
    return (left[0], right[1], (left[2] + right[2]) % 2)


def followed_rows(remains):
    """Returns the rows of a table for heads or tails, the entries of the letters in both rows, that of other items.

    The table merges spans as heads does. Those over the place that no node covers have two forms; which one, is told
    by the letter at this place. Under tails all is done in reverse order.
    """
    many = len(remains.goal)
    letters, bare = remains.goal, missing_in(remains)[1]
    if remains.kind == "tails":
        letters, bare = letters[::-1], many - 1 - bare
    marks = [None] + [(begin, stop, 0) for stop in range(many + 1) for begin in range(stop)]
    marks = marks + [(begin, stop, 1) for stop in range(bare + 1, many + 1) for begin in range(bare + 1)]
    numbers = {mark: number for number, mark in enumerate(marks)}
    one = {letter: numbers[(place, place + 1, 0)] for place, letter in enumerate(letters)}
    other = dict(one)
    other[letters[bare]] = numbers[(bare, bare + 1, 1)]
    rows = [[numbers[followed_marks(bare, left, right)] for right in marks] for left in marks]
    if remains.kind == "tails":
        rows = [[row[number] for row in rows] for number in range(len(marks))]
    return (rows, one, other, numbers[None])


def followed_marks(bare, left, right):
    """Merges two spans with their forms, the left one first; None is what all else gives."""
    if left is None or right is None:
        return None
    begin, end, form = left
    if right[1] <= end:
        return left
    if right[0] > end:
        return right
    # The span that covers the bare place first tells the form.
    return (begin, right[1], right[2] if end <= bare else form)


def marked_rows(remains):
    """Returns the rows of a table for set or an outer kind, the entries of the letters in both rows, that of others.

    Only the missing letter has another entry in the second row.
    """
    missing_letter = missing_in(remains)[1]
    one = {letter: 0 for letter in remains.goal}
    other = dict(one)
    other[missing_letter] = 1
    if remains.kind == "set":
        # A node that has the missing letter has an item, too, that is not in the goal, and that hides it.
        return (GREATER_ROWS, one, other, 1)
    if remains.kind == "last" or remains.fronts():
        return (RIGHT_ROWS, one, other, 0)
    return (LEFT_ROWS, one, other, 0)
