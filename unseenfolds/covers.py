"""Covers: spans that together cover places, whether they overlap or not.

Spans are a list of tuples (node, begin, end) here.
"""

from unseenfolds.ways import mirrored


def cover_distances(spans, end):
    """Returns, for each place, the least number of spans that cover all places below it, or None."""
    least = [0]
    for place in range(1, end + 1):
        # The last span covers the place before; the others have to cover all below its begin.
        rest = [least[begin] for _, begin, stop in spans if begin < place <= stop]
        least.append(min([number + 1 for number in rest if number is not None], default=None))
    return least


def cover_distances_back(spans, end):
    """Returns, for each place, the least number of spans that cover all places from it on, or None."""
    return cover_distances(mirrored(spans, end), end)[::-1]


def uncovered(spans, end):
    """Returns the ascending list of the places that no span covers."""
    covered = {place: True for _, begin, stop in spans for place in range(begin, stop)}
    return [place for place in range(end) if place not in covered]


def farthest_spans(spans, end):
    """Returns a list of tuples (place, node): from 0 on, the span over the place that ends last, then on at its end.

    Returns [] if some place is not covered.
    """
    if uncovered(spans, end):
        return []
    rows = []
    place = 0
    while place < end:
        stop, node = max([(behind, at) for at, begin, behind in spans if begin <= place])
        rows.append((place, node))
        place = stop
    return rows


def shortest_cover(spans, end):
    """Returns the list of the nodes of as few spans as possible that cover all places; [] if none do."""
    return [node for _, node in farthest_spans(spans, end)]


def cover_points(spans, end):
    """Returns a list of as many places as possible no two of which one span covers; None if one is not covered."""
    if uncovered(spans, end):
        return None
    # No span over one of these places reaches the next one, because the farthest does not.
    return [place for place, _ in farthest_spans(spans, end)]
