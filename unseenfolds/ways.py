"""Ways: spans that lead from place to place, each beginning where the one before it ends.

Spans are a list of tuples (node, begin, end) here.
"""


def distances(spans, end):
    """Returns, for each place, the least number of spans that lead to it from 0, or None."""
    least = [0] + [None for _ in range(end)]
    # By their begins: the number of a place is settled before a span leads on from it.
    for _, begin, stop in sorted(spans, key=lambda entry: entry[1]):
        if least[begin] is not None and (least[stop] is None or least[begin] + 1 < least[stop]):
            least[stop] = least[begin] + 1
    return least


def distances_back(spans, end):
    """Returns, for each place, the least number of spans that lead from it to the end, or None."""
    return distances(mirrored(spans, end), end)[::-1]


def mirrored(spans, end):
    """Returns the spans with the places counted from the end."""
    return [(node, end - stop, end - begin) for node, begin, stop in spans]


def reached(spans, end):
    """Returns the ascending list of the places that are reached from 0."""
    return [place for place, least in enumerate(distances(spans, end)) if least is not None]


def shortest_way(spans, end):
    """Returns the list of the nodes of as few spans as possible that lead from 0 to the end; [] if none do."""
    least = distances(spans, end)
    if least[end] is None:
        return []
    way = []
    place = end
    while place > 0:
        steps_in = [entry for entry in spans if entry[2] == place and least[entry[1]] == least[place] - 1]
        way.append(steps_in[0][0])
        place = steps_in[0][1]
    return way[::-1]
