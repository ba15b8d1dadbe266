"""The ways from the items of a tree up to its last node, and nets with copies of their merges."""

from unseenfolds.errors import BadCount, NotTree
from unseenfolds.nets import Net


def ways_up(net):
    """Returns the list of the numbers of nodes of the ways of all items. Raises NotTree."""
    above = merges_above(net)
    return [len(way_of(item, above)) for item in range(net.width)]


def top_way(net):
    """Returns the way with the fewest nodes, of several that of the least item. Raises NotTree."""
    above = merges_above(net)
    return min([way_of(item, above) for item in range(net.width)], key=len)


def copied_net(net, count):
    """Returns the net with copies. Raises BadCount."""
    if count < 1:
        raise BadCount(count)
    copies = [pair for pair in net.pairs() for _ in range(count - 1)]
    return Net(net.width, net.pairs() + copies)


def merges_above(net):
    """Returns, for each node but the last, the merge that it is a part of. Raises NotTree."""
    merges = [[] for _ in range(net.size)]
    for node, one, other in net.steps():
        merges[one].append(node)
        merges[other].append(node)
    for node, row in enumerate(merges[:-1]):
        if len(row) != 1:
            raise NotTree(node)
    return [row[0] for row in merges[:-1]]


def way_of(item, above):
    """Returns the ascending list of the nodes of the way of an item."""
    way = [item]
    while way[-1] < len(above):
        way.append(above[way[-1]])
    return way
