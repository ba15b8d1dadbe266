"""What is at or under a node of a net."""


def nodes_under(net, node):
    """Returns the ascending list of all nodes at or under the node. Raises NoNode."""
    return net.at_or_under(node)


def merges_under(net, node):
    """Returns the ascending list of the merges at or under the node. Raises NoNode."""
    return [at for at in net.at_or_under(node) if at >= net.width]


def letters_under(net, node):
    """Returns the ascending list of the items at or under the node. Raises NoNode."""
    return [at for at in net.at_or_under(node) if at < net.width]


def shared_node(net, node):
    """Returns the least node that is a part at least twice at or under the node, or None. Raises NoNode."""
    uses = {}
    for merge in merges_under(net, node):
        for part in net.parts_of(merge):
            uses[part] = uses.get(part, 0) + 1
    return min([part for part in uses if uses[part] > 1], default=None)


def is_tree(net, node):
    """Returns True if no node is shared under the node. Raises NoNode."""
    return shared_node(net, node) is None
