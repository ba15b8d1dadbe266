"""Flows: as many ways or covers as possible no two of which share a span.

Spans are a list of tuples (node, begin, end) here.
"""


class Flow:
    """As many ways from 0 to the end as there can be if no node is in two of them."""

    def __init__(self, spans, end):
        self._spans = list(spans)
        self._end = end
        self._room = full_rooms(self._spans, end)

    def ways(self):
        """Returns the list of the ways, tuples of nodes."""
        left = used_nodes(self._spans, self._room)
        ways = []
        for _ in range(sum(self._room[self._end])):
            way = []
            place = 0
            while place < self._end:
                ahead = [stop for stop in range(place + 1, self._end + 1) if left.get((place, stop))]
                way.append(left[(place, ahead[0])].pop())
                place = ahead[0]
            ways.append(tuple(way))
        return ways

    def places(self):
        """Returns the ascending list of the places out of which as many spans lead as there are ways."""
        return sorted(reached_rooms(self._room, 0))

    def cut(self):
        """Returns the ascending list of the nodes of the spans that lead out of these places."""
        inside = reached_rooms(self._room, 0)
        return sorted([node for node, begin, stop in self._spans if begin in inside and stop not in inside])

    def narrow(self):
        """Returns the ascending list of the nodes without each of which there is one way less."""
        beyond = [reached_rooms(self._room, place) for place in range(self._end + 1)]
        # A span without which another one, or a detour, does as well is in no least cut.
        return sorted([node for node, begin, stop in self._spans if stop not in beyond[begin]])


def full_rooms(spans, end):
    """Returns how many ways have room from place to place when no further way from 0 to the end has.

    From a place back to an earlier one there is as much room as spans between them are used.
    """
    room = [[0 for _ in range(end + 1)] for _ in range(end + 1)]
    for _, begin, stop in spans:
        room[begin][stop] = room[begin][stop] + 1
    path = roomy_path(room, end)
    while path:
        many = min([room[one][other] for one, other in path])
        for one, other in path:
            room[one][other] = room[one][other] - many
            room[other][one] = room[other][one] + many
        path = roomy_path(room, end)
    return room


def reached_rooms(room, start):
    """Returns a dict of the places that a way with room reaches from a place, each with the place before it."""
    before = {start: None}
    queue = [start]
    at = 0
    while at < len(queue):
        one = queue[at]
        at += 1
        for other, many in enumerate(room[one]):
            if many > 0 and other not in before:
                before[other] = one
                queue.append(other)
    return before


def roomy_path(room, end):
    """Returns a shortest list of steps with room that lead from 0 to the end, [] if there is none."""
    before = reached_rooms(room, 0)
    path = []
    place = end
    while before.get(place) is not None:
        path.append((before[place], place))
        place = before[place]
    return path


def used_nodes(spans, room):
    """Returns a dict from pairs of places to lists of the nodes that ways use between them."""
    nodes = {}
    for node, begin, stop in spans:
        row = nodes.setdefault((begin, stop), [])
        if len(row) < room[stop][begin]:
            row.append(node)
    return nodes


def disjoint_covers(spans, end):
    """Returns the list of as many covers, tuples of nodes, as there can be if no node is in two of them."""
    many = min([len(over_place(spans, place)) for place in range(end)], default=0)
    covers = [[] for _ in range(many)]
    ends = [0 for _ in range(many)]
    left = list(spans)
    for place in range(end):
        for number in range(many):
            if ends[number] == place:
                # Each cover that goes on here has at most one span over the place, so enough are left. The farthest
                # is taken, so that no later span of a cover begins before it.
                stop, node, begin = max([(entry[2], entry[0], entry[1]) for entry in over_place(left, place)])
                covers[number].append(node)
                ends[number] = stop
                left.remove((node, begin, stop))
    return [tuple(cover) for cover in covers]


def over_place(spans, place):
    """Returns the list of the spans that cover the place."""
    return [entry for entry in spans if entry[1] <= place < entry[2]]
