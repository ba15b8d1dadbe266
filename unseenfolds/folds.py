"""Nets that merge the letters of words, by halves or from the left, and the least ones for a goal."""

from unseenfolds.errors import BadCount, BadLength, BadLetter, EmptyWord, NotSimple
from unseenfolds.kinds import different_letters, kind_named, repeated_letter
from unseenfolds.nets import Net
from unseenfolds.strandrows import row_word


def ceil_log2(k):
    """Returns the least integer h with 2 ** h >= k. Raises BadCount."""
    if k < 1:
        raise BadCount(k)
    return (k - 1).bit_length()


def floor_log2(k):
    """Returns the greatest integer h with 2 ** h <= k. Raises BadCount."""
    if k < 1:
        raise BadCount(k)
    return k.bit_length() - 1


def checked_goal(kind, goal):
    """Returns the plain value of a goal. Raises EmptyWord, and NotSimple under list and bag."""
    rules = kind_named(kind)
    if len(goal) == 0:
        raise EmptyWord()
    letter = repeated_letter(goal)
    if letter is not None and not rules.IDEMPOTENT:
        raise NotSimple(letter)
    return rules.plain(goal)


def fold_letters(kind, goal):
    """Returns the different letters of the goal's plain value, in their order. Raises EmptyWord and NotSimple."""
    return different_letters(checked_goal(kind, goal))


def least_merges(kind, goal):
    """Returns the least number of merges of a node that is alike to the goal. Raises EmptyWord and NotSimple."""
    return len(fold_letters(kind, goal)) - 1


def least_height(kind, goal):
    """Returns the least height of a node that is alike to the goal. Raises EmptyWord and NotSimple."""
    return ceil_log2(len(fold_letters(kind, goal)))


def halves_over(net, nodes):
    """Merges nodes of a net by halves; returns the new net and the outcome. Raises NoNode and EmptyWord."""
    row = checked_nodes(net, nodes)
    merges, outcome = halves_of(row, net.size)
    return (Net(net.width, net.pairs() + merges), outcome)


def chain_over(net, nodes):
    """Merges nodes of a net from the left; returns the new net and the outcome. Raises NoNode and EmptyWord."""
    outcome, *others = checked_nodes(net, nodes)
    merges = []
    for node in others:
        merges.append((outcome, node))
        outcome = net.size + len(merges) - 1
    return (Net(net.width, net.pairs() + merges), outcome)


def checked_nodes(net, nodes):
    """Returns the list of the nodes. Raises NoNode, and EmptyWord if there are none."""
    row = [net.checked(node) for node in nodes]
    if len(row) == 0:
        raise EmptyWord()
    return row


def halves_of(nodes, number):
    """Returns the merges of nodes by halves, and their outcome; the first merge makes the node of this number."""
    if len(nodes) == 1:
        return ([], nodes[0])
    half = (len(nodes) + 1) // 2
    left, one = halves_of(nodes[:half], number)
    right, other = halves_of(nodes[half:], number + len(left))
    return (left + right + [(one, other)], number + len(left) + len(right))


def halves(width, letters):
    """Merges a word by halves; returns the net and the outcome. Raises BadWidth, BadLetter and EmptyWord."""
    return halves_over(with_items(Net(width), letters), letters)


def chain(width, letters):
    """Merges a word from the left; returns the net and the outcome. Raises BadWidth, BadLetter and EmptyWord."""
    return chain_over(with_items(Net(width), letters), letters)


def with_items(net, letters):
    """Returns the net. Raises BadLetter if a letter is not an item of the net, which has no merges."""
    for letter in letters:
        if letter not in net:
            raise BadLetter(letter)
    return net


def fold_net(kind, goal, width):
    """Merges the fold letters of a goal by halves; returns the net and the outcome.

    Raises BadKind, BadWidth, EmptyWord, NotSimple and BadLetter, in this order.
    """
    kind_named(kind)
    net = Net(width)
    letters = fold_letters(kind, goal)
    return halves_over(with_items(net, goal), letters)


def row_net(width, row, *, chained=False):
    """Merges the word of a row of strands; returns the net and the outcome. Raises what halves raises."""
    if chained:
        return chain(width, row_word(row))
    return halves(width, row_word(row))


def feed_net(feed, length, *, chained=False):
    """Merges the word of a feed at a length; returns the net and the outcome. Raises BadLength and EmptyWord."""
    if length < 1:
        raise BadLength(length)
    return row_net(length, feed.strands_at(length), chained=chained)
