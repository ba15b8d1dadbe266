"""Mending a goal from what stands, by as few parts as possible."""

from unseenfolds.covers import cover_distances, cover_distances_back, shortest_cover
from unseenfolds.errors import Gone, OtherWidth
from unseenfolds.folds import halves, halves_over
from unseenfolds.lacking import check_letter_count, letter_rows, letter_table
from unseenfolds.spans import Remains
from unseenfolds.ways import distances, distances_back, shortest_way


class Mending(Remains):
    """One mending of fewest parts of a goal, and what it makes."""

    def __init__(self, net, kind, goal, *, loss=()):
        super().__init__(net, kind, goal, loss=loss)
        self._parts = fewest_parts(self)

    @property
    def fewest(self):
        """The least number of parts of a mending, or None."""
        return len(self._parts) if len(self._parts) > 0 else None

    def __iter__(self):
        return iter(self._parts)

    def letter_sets(self):
        """Returns the letter table, or None where there is none."""
        return letter_table(self) if needs_letters(self) else None

    def mends(self, row):
        """Returns True if a row of integers, whatever they are, is a mending."""
        standing = {node: True for node in self._standing}
        if len(row) == 0 or not all(node in standing for node in row):
            return False
        trace = self._traces[row[0]]
        for node in row[1:]:
            trace = self._tracer.joined(trace, self._traces[node])
        return self._tracer.is_whole(trace)

    def mended(self):
        """Returns the net with the parts merged behind it, and the outcome. Raises Gone."""
        return halves_over(self._net, self.kept_parts())

    def least_net(self):
        """Returns the net over what stands that merges the parts, and the outcome. Raises Gone."""
        numbers = {node: number for number, node in enumerate(self._standing)}
        parts = self.kept_parts()
        return halves(len(self._standing), [numbers[node] for node in parts])

    def kept_parts(self):
        """Returns the list of the parts. Raises Gone if there are none."""
        if len(self._parts) == 0:
            raise Gone()
        return list(self._parts)

    def makers(self, other):
        """Returns the ascending list of the makers in a net over what stands. Raises OtherWidth."""
        if other.width != len(self._standing):
            raise OtherWidth()
        traces = self._tracer.of_nodes(other, [self._traces[node] for node in self._standing])
        return [node for node, trace in enumerate(traces) if self._tracer.is_whole(trace)]

    def worth(self, node):
        """Returns fewest behind the loss without the node. Raises NoNode, and TooMany behind that loss."""
        trace = self._traces[self._net.checked(node)]
        if node not in self._loss or not self._tracer.is_useful(trace):
            return self.fewest
        pair = self._tracer.span_of(trace)
        if self._spanned and pair is not None:
            return least_with(self, pair)
        rest = [entry for entry in self._loss if entry != node]
        return Mending(self._net, self.kind, self._goal, loss=rest).fewest


def needs_letters(remains):
    """Returns True if the letter table tells what the fewest parts are."""
    return remains.kind in ("set", "bag") and not remains.spanned


def fewest_parts(remains):
    """Returns the list of the parts of a mending of fewest parts, [] if there is none. Raises TooMany."""
    if needs_letters(remains):
        check_letter_count(remains)
        return list(letter_rows(remains).get(tuple(sorted(remains.goal)), ()))
    if remains.kind in ("list", "bag"):
        return shortest_way(remains.spans(), len(remains.goal))
    if remains.kind in ("set", "heads", "tails"):
        return shortest_cover(remains.spans(), len(remains.goal))
    if remains.whole_nodes():
        return remains.whole_nodes()[:1]
    # Under first and last the useful nodes are whole; only a front and a back under ends are left.
    if remains.fronts() and remains.backs():
        return [remains.fronts()[0], remains.backs()[0]]
    return []


def least_with(mending, pair):
    """Returns the fewest parts of a spanned goal if one more node had this span, or None."""
    begin, end = pair
    many = len(mending.goal)
    if mending.kind in ("list", "bag"):
        front, back = distances(mending.spans(), many), distances_back(mending.spans(), many)
    else:
        front, back = cover_distances(mending.spans(), many), cover_distances_back(mending.spans(), many)
    choices = [mending.fewest]
    if front[begin] is not None and back[end] is not None:
        choices.append(front[begin] + 1 + back[end])
    return min([number for number in choices if number is not None], default=None)
