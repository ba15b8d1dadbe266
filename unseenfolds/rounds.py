"""Timetables: the merges of a net in rounds, for a number of workers."""

from unseenfolds.errors import BadTimetable, BadWidth, BadWorkers, NoTight
from unseenfolds.nets import Net


def least_rounds(width, workers):
    """Returns the least number of rounds of a scan under a full kind. Raises BadWidth and BadWorkers."""
    if width < 1:
        raise BadWidth(width)
    check_workers(workers)
    # The quotient is rounded up.
    return (2 * (width - 1) + workers) // (workers + 1)


def check_workers(workers):
    """Raises BadWorkers if there is no worker."""
    if workers < 1:
        raise BadWorkers(workers)


def scan_rounds(width, workers):
    """Returns a net that is a scan under each full kind, and a timetable of it with as few rounds as can be.

    Raises BadWidth, BadWorkers and NoTight.
    """
    total = least_rounds(width, workers)
    if 2 * (width - 1) < workers * (workers + 1):
        raise NoTight(width)
    sizes = group_sizes(width, workers, total)
    starts = group_starts(sizes)
    planned = planned_groups(sizes, workers)
    # Of each group the first item, then the beginnings that are made so far.
    begun = [[first] for first in starts]
    merges, rounds = [], []
    prefix = 0
    for number in range(total):
        first_node = width + len(merges)
        made = [(prefix, node) for node in begun[number]]
        prefix = first_node + len(made) - 1
        for group in planned[number]:
            made.append((begun[group][-1], starts[group] + len(begun[group])))
            begun[group].append(first_node + len(made) - 1)
        rounds.append(list(range(first_node, first_node + len(made))))
        merges.extend(made)
    return (Net(width, merges), rounds)


def group_sizes(width, workers, total):
    """Returns the list of the sizes of the groups of items, one group for each of so many rounds."""
    half = (workers + 1) // 2
    sizes = list(range(1, half + 1))
    for left in range(total - workers, 0, -1):
        # By turns for an even number of workers, and the last one is the lesser size.
        sizes.append(half + 1 if workers % 2 == 0 and left % 2 == 0 else half)
    sizes.extend(list(range(half + 1, workers + 1)))
    sizes[-1] = sizes[-1] - (sum(sizes) - (width - 1))
    return sizes


def group_starts(sizes):
    """Returns the list of the first items of the groups."""
    starts = []
    first = 1
    for size in sizes:
        starts.append(first)
        first = first + size
    return starts


def planned_groups(sizes, workers):
    """Returns, for each round, the list of the groups that get a beginning in it; planned from the last round back."""
    left = [size - 1 for size in sizes]
    planned = [[] for _ in sizes]
    for number in range(len(sizes) - 2, -1, -1):
        # Those that have most left come first, of equal ones the earliest.
        waiting = sorted([(-left[group], group) for group in range(number + 1, len(sizes)) if left[group] > 0])
        for _, group in waiting[:workers - sizes[number]]:
            planned[number].append(group)
            left[group] = left[group] - 1
    return planned


def timetable(net, workers):
    """Returns the ready timetable of the net, a list of lists. Raises BadWorkers."""
    check_workers(workers)
    made = {item: True for item in range(net.width)}
    left = list(net.steps())
    rounds = []
    while left:
        ready = [node for node, one, other in left if one in made and other in made]
        rounds.append(ready[:workers])
        for node in ready[:workers]:
            made[node] = True
        left = [step for step in left if step[0] not in made]
    return rounds


def round_count(net, workers, rounds):
    """Returns the number of rounds of a timetable. Raises BadWorkers, and BadTimetable if it is none."""
    check_workers(workers)
    made = {item: True for item in range(net.width)}
    for place, row in enumerate(rounds):
        if len(row) > workers or not all([is_due(net, made, node) for node in row]):
            raise BadTimetable(place)
        for node in row:
            if node in made:
                raise BadTimetable(place)
            made[node] = True
    if len(made) < net.size:
        raise BadTimetable(len(rounds))
    return len(rounds)


def is_due(net, made, node):
    """Returns True if the node is a merge of the net that is not made yet, and whose parts are."""
    if node not in net or node in made:
        return False
    return all([part in made for part in net.parts_of(node)])
