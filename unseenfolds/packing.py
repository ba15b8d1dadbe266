"""Packing: a net in which no two nodes are alike."""

from unseenfolds.nets import Net


def packed(net, kind):
    """Returns the tuple of the packed net and the tuple of the images of all nodes. Raises TooLong."""
    values = net.plain_values(kind)
    numbers = {values[item]: item for item in range(net.width)}
    images = list(range(net.width))
    merges = []
    for node, one, other in net.steps():
        if values[node] not in numbers:
            numbers[values[node]] = net.width + len(merges)
            merges.append((images[one], images[other]))
        images.append(numbers[values[node]])
    return (Net(net.width, merges), tuple(images))
