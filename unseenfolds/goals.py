"""Goals and losses."""

from unseenfolds.errors import BadLoss
from unseenfolds.folds import checked_goal
from unseenfolds.kinds import different_letters, kind_named


def misplaced(net, nodes, lost):
    """Returns the least index of an entry that is lost, is no node, or is not greater than the one before, or None."""
    before = -1
    for place, node in enumerate(nodes):
        if node not in net or node in lost or node <= before:
            return place
        before = node
    return None


def lost_nodes(net, loss):
    """Returns a dict with the nodes of the loss as its keys. Raises BadLoss."""
    place = misplaced(net, loss, {})
    if place is not None:
        raise BadLoss(place)
    return {node: True for node in loss}


def standing_nodes(net, loss):
    """Returns the ascending list of the standing nodes. Raises BadLoss."""
    lost = lost_nodes(net, loss)
    return [node for node in range(net.size) if node not in lost]


def lost_top(net, loss):
    """Returns the lost top, an ascending list. Raises BadLoss."""
    lost = lost_nodes(net, loss)
    last = net.size - 1
    if last not in lost:
        return []
    top = {last: True}
    # A part is below its merge, so all merges of the top are met before their parts.
    for node in range(last, net.width - 1, -1):
        if node in top:
            for part in net.parts_of(node):
                if part in lost:
                    top[part] = True
    return sorted(top)


def goal_letters(kind, goal):
    """Returns the letters of the goal that a mending has to give, in order. Raises EmptyWord and NotSimple."""
    rules = kind_named(kind)
    letters = checked_goal(kind, goal)
    if rules.ORDERLESS:
        # The order does not matter then, but places need one: that of the goal as it is given.
        return different_letters(goal)
    return letters
