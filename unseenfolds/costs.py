"""The nets of a plan, and what they cost."""

from unseenfolds.errors import BadLength, EmptyWord
from unseenfolds.folds import ceil_log2, chain_over, halves_over
from unseenfolds.nets import Net


def results_net(plan, length):
    """Returns the net of the merges of all pieces, by halves, and the list of their result nodes. Raises BadLength."""
    return merged_pieces(plan, length, False)


def plan_net(plan, length, *, chained=False, top_chained=False):
    """Returns the net of the plan and its outcome. Raises BadLength and EmptyWord."""
    net, results = merged_pieces(plan, length, chained)
    return merged_over(net, [node for node in results if node is not None], top_chained)


def merged_pieces(plan, length, chained):
    """Returns the net of the merges of all pieces and the list of their result nodes, None for an empty piece."""
    if length < 1:
        raise BadLength(length)
    net = Net(length)
    results = []
    for word in plan.words_at(length):
        result = None
        if len(word) > 0:
            net, result = merged_over(net, word, chained)
        results.append(result)
    return (net, results)


def merged_over(net, nodes, chained):
    """Merges nodes of a net from the left, if chained, or by halves. Raises EmptyWord."""
    return chain_over(net, nodes) if chained else halves_over(net, nodes)


def costs(plan, length, *, chained=False, top_chained=False):
    """Returns the number of merges of the net of the plan and the height of its outcome.

    No word is listed. Raises BadLength and EmptyWord.
    """
    sizes = [piece.size_at(length) for piece in plan]
    sizes = [size for size in sizes if size > 0]
    if len(sizes) == 0:
        raise EmptyWord()
    heights = [size - 1 if chained else ceil_log2(size) for size in sizes]
    height = chained_height(heights) if top_chained else halved_height(heights)
    return (sum(sizes) - 1, height)


def chained_height(heights):
    """Returns the height of the outcome of nodes of these heights, merged from the left."""
    total = heights[0]
    for height in heights[1:]:
        total = 1 + max(total, height)
    return total


def halved_height(heights):
    """Returns the height of the outcome of nodes of these heights, merged by halves."""
    if len(heights) == 1:
        return heights[0]
    half = (len(heights) + 1) // 2
    return 1 + max(halved_height(heights[:half]), halved_height(heights[half:]))
