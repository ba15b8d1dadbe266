"""Blows: sets of standing nodes behind whose loss a goal cannot be mended."""

from unseenfolds.errors import BadBlow
from unseenfolds.goals import misplaced
from unseenfolds.lacking import check_runs, mendable
from unseenfolds.spans import Remains


def is_blow(net, kind, goal, nodes, *, loss=()):
    """Returns True if the nodes are a blow. Raises NotRuns, then BadBlow."""
    remains = Remains(net, kind, goal, loss=loss)
    check_runs(remains)
    return not mendable(net, kind, goal, loss=lost_with(net, loss, nodes))


def lost_with(net, loss, nodes):
    """Returns the ascending list of the nodes of the loss and of a set of standing nodes. Raises BadBlow."""
    place = misplaced(net, nodes, {node: True for node in loss})
    if place is not None:
        raise BadBlow(place)
    return sorted(list(loss) + list(nodes))
