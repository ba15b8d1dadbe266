"""Scans: nets that have all prefixes, the beginnings of the word of all items, and their slack."""

from unseenfolds.errors import NotScan
from unseenfolds.kinds import kind_named
from unseenfolds.nets import Net


def prefix_nodes(kind, net):
    """Returns the list of the prefix nodes, None for a prefix without one. Raises TooLong."""
    values = net.plain_values(kind)
    return least_nodes(values, prefix_values(kind, net.width))


def is_scan(kind, net):
    """Returns True if the net is a scan. Raises TooLong."""
    return None not in prefix_nodes(kind, net)


def scan_nodes(kind, net):
    """Returns the tuple of the prefix nodes. Raises TooLong and NotScan."""
    nodes = prefix_nodes(kind, net)
    if None in nodes:
        raise NotScan(nodes.index(None))
    return tuple(nodes)


def slack(kind, net):
    """Returns the merges and the height of the last prefix, beyond 2n - 2. Raises TooLong and NotScan."""
    scan_nodes(kind, net)
    heights = least_heights(net, net.plain_values(kind))
    return net.merge_count + heights[prefix_values(kind, net.width)[-1]] - (2 * net.width - 2)


def outer_scan(width):
    """Returns the net of the merges (0, 1), (0, 2), .., (0, width - 1). Raises BadWidth."""
    return Net(width, [(0, item) for item in range(1, width)])


def prefix_values(kind, width):
    """Returns the list of the plain values of the prefixes."""
    rules = kind_named(kind)
    return [rules.plain(tuple(range(end))) for end in range(1, width + 1)]


def least_nodes(values, wanted):
    """Returns, for each wanted plain value, the least node that has it, or None; values are those of all nodes."""
    nodes = {}
    for node, value in enumerate(values):
        nodes.setdefault(value, node)
    return [nodes.get(value) for value in wanted]


def least_heights(net, values):
    """Returns a dict of the least height of a node with each plain value; values are those of all nodes."""
    heights = {}
    for value, height in zip(values, net.heights()):
        heights[value] = min(height, heights.get(value, height))
    return heights
