"""Spans: what the words of nodes have of a goal."""

from unseenfolds.errors import EmptyWord
from unseenfolds.goals import goal_letters, standing_nodes
from unseenfolds.kinds import different_letters, kind_named


class Traces:
    """What words show of a goal. Under list the trace of a word is its span; a word of the trace None is not useful.

    The traces of two words tell that of the joined word, so no word needs to be listed.
    """

    def __init__(self, letters):
        self._letters = letters
        self._numbers = {letter: place for place, letter in enumerate(letters)}

    def of_letter(self, letter):
        """Returns the trace of a word of one letter."""
        place = self._numbers.get(letter)
        return None if place is None else self.of_place(place)

    def of_place(self, place):
        """Returns the trace of the letter at a place of the goal."""
        return (place, place + 1)

    def joined(self, one, other):
        """Returns the trace of two words joined."""
        if one is None or other is None:
            return None
        return self.both(one, other)

    def both(self, one, other):
        """Returns the trace of two useful words joined."""
        return (one[0], other[1]) if one[1] == other[0] else None

    def of_word(self, word):
        """Returns the trace of a word that is not empty."""
        trace = self.of_letter(word[0])
        for letter in word[1:]:
            trace = self.joined(trace, self.of_letter(letter))
        return trace

    def of_nodes(self, net, told):
        """Returns the list of the traces of all nodes of a net, told those of its items."""
        traces = list(told)
        for _, one, other in net.steps():
            traces.append(self.joined(traces[one], traces[other]))
        return traces

    def span_of(self, trace):
        """Returns the span, or None."""
        return trace

    def counted(self, trace):
        """Returns the list of the places that a useful word covers, or has the letters of."""
        begin, end = self.span_of(trace)
        return list(range(begin, end))

    def is_useful(self, trace):
        """Returns True if a word with this trace is useful."""
        return trace is not None

    def is_front(self, trace):
        """Returns True if a word with this trace is a front; under a full kind none is."""
        return False

    def is_back(self, trace):
        """Returns True if a word with this trace is a back; under a full kind none is."""
        return False

    def is_whole(self, trace):
        """Returns True if a word with this trace is alike to the goal."""
        return self.span_of(trace) == (0, len(self._letters))


class SetTraces(Traces):
    """Under set the trace is a number whose bits are the places of the letters."""

    def of_place(self, place):
        """Returns the trace of the letter at a place of the goal."""
        return 1 << place

    def both(self, one, other):
        """Returns the trace of two useful words joined."""
        return one | other

    def span_of(self, trace):
        """Returns the span, or None."""
        if trace is None:
            return None
        places = self.counted(trace)
        begin, end = places[0], places[-1] + 1
        return (begin, end) if len(places) == end - begin else None

    def counted(self, trace):
        """Returns the list of the places that a useful word has the letters of."""
        return [place for place in range(len(self._letters)) if (trace >> place) & 1 == 1]


class BagTraces(SetTraces):
    """Under bag a word is useful only if it is simple."""

    def both(self, one, other):
        """Returns the trace of two useful words joined."""
        return one | other if (one & other) == 0 else None


class HeadsTraces(Traces):
    """Under heads the trace is the row of the different places, in the order in which they stand first."""

    def of_place(self, place):
        """Returns the trace of the letter at a place of the goal."""
        return (place,)

    def both(self, one, other):
        """Returns the trace of two useful words joined."""
        return different_letters(one + other)

    def span_of(self, trace):
        """Returns the span, or None."""
        if trace is None:
            return None
        order = {place: number for number, place in enumerate(trace)}
        end = max(trace) + 1
        begin = end - 1
        while begin - 1 in order and order[begin - 1] < order[begin]:
            begin = begin - 1
        return (begin, end)


class TailsTraces(Traces):
    """Under tails the trace is the row of the different places, in the order in which they stand last."""

    def of_place(self, place):
        """Returns the trace of the letter at a place of the goal."""
        return (place,)

    def both(self, one, other):
        """Returns the trace of two useful words joined."""
        return different_letters((one + other)[::-1])[::-1]

    def span_of(self, trace):
        """Returns the span, or None."""
        if trace is None:
            return None
        order = {place: number for number, place in enumerate(trace)}
        begin = min(trace)
        end = begin + 1
        while end in order and order[end - 1] < order[end]:
            end = end + 1
        return (begin, end)


class EndsTraces(Traces):
    """Under the outer kinds the trace is the pair of the first and the last letter, whether useful or not."""

    def of_letter(self, letter):
        """Returns the trace of a word of one letter."""
        return (letter, letter)

    def both(self, one, other):
        """Returns the trace of two words joined."""
        return (one[0], other[1])

    def span_of(self, trace):
        """Returns None: there are no spans."""
        return None

    def counted(self, trace):
        """Returns an empty list: there are no spans."""
        return []

    def is_useful(self, trace):
        """Returns True if a word with this trace is useful."""
        return self.is_front(trace) or self.is_back(trace)

    def is_front(self, trace):
        """Returns True if a word with this trace is a front."""
        return trace[0] == self._letters[0]

    def is_back(self, trace):
        """Returns True if a word with this trace is a back."""
        return trace[1] == self._letters[-1]

    def is_whole(self, trace):
        """Returns True if a word with this trace is alike to the goal."""
        return self.is_front(trace) and self.is_back(trace)


class FirstTraces(EndsTraces):
    """Under first there are no backs."""

    def is_back(self, trace):
        """Returns False."""
        return False

    def is_whole(self, trace):
        """Returns True if a word with this trace is alike to the goal."""
        return self.is_front(trace)


class LastTraces(EndsTraces):
    """Under last there are no fronts."""

    def is_front(self, trace):
        """Returns False."""
        return False

    def is_whole(self, trace):
        """Returns True if a word with this trace is alike to the goal."""
        return self.is_back(trace)


def traces_of(kind, letters):
    """Returns the object that tells what words show of these letters of a goal."""
    if kind == "list":
        return Traces(letters)
    if kind == "bag":
        return BagTraces(letters)
    if kind == "set":
        return SetTraces(letters)
    if kind == "heads":
        return HeadsTraces(letters)
    if kind == "tails":
        return TailsTraces(letters)
    if kind == "first":
        return FirstTraces(letters)
    if kind == "last":
        return LastTraces(letters)
    return EndsTraces(letters)


def span(kind, goal, word):
    """Returns the span in the goal of a node with this word, or None. Raises EmptyWord and NotSimple."""
    traces = traces_of(kind, goal_letters(kind, goal))
    return traces.span_of(word_trace(traces, word))


def is_useful(kind, goal, word):
    """Returns True if a node with this word is useful. Raises EmptyWord and NotSimple."""
    traces = traces_of(kind, goal_letters(kind, goal))
    return traces.is_useful(word_trace(traces, word))


def word_trace(traces, word):
    """Returns the trace of the word of a node. Raises EmptyWord if it is empty."""
    if len(word) == 0:
        raise EmptyWord()
    return traces.of_word(word)


class Remains:
    """What stands of a net behind a loss, and what of it is of use for a goal under a kind."""

    def __init__(self, net, kind, goal, *, loss=()):
        rules = kind_named(kind)
        self._standing = standing_nodes(net, loss)
        self._goal = goal_letters(kind, goal)
        self.kind = kind
        self._net = net
        self._loss = list(loss)
        self._tracer = traces_of(kind, self._goal)
        items = [self._tracer.of_letter(item) for item in range(net.width)]
        self._traces = self._tracer.of_nodes(net, items)
        self._useful = [node for node in self._standing if self._tracer.is_useful(self._traces[node])]
        self._spans = self.told_spans()
        self._spanned = not rules.OUTER and len(self._spans) == len(self._useful)

    @property
    def goal(self):
        """The letters of the goal that a mending has to give, in order."""
        return self._goal

    @property
    def spanned(self):
        """True if the kind is full and no useful standing node is without a span."""
        return self._spanned

    def standing(self):
        """Returns the ascending list of the standing nodes."""
        return list(self._standing)

    def useful(self):
        """Returns the ascending list of the useful nodes."""
        return list(self._useful)

    def fronts(self):
        """Returns the ascending list of the fronts."""
        return [node for node in self._useful if self._tracer.is_front(self._traces[node])]

    def backs(self):
        """Returns the ascending list of the backs."""
        return [node for node in self._useful if self._tracer.is_back(self._traces[node])]

    def whole_nodes(self):
        """Returns the ascending list of the standing nodes that are alike to the goal."""
        return [node for node in self._useful if self._tracer.is_whole(self._traces[node])]

    def spans(self):
        """Returns the ascending list of the tuples (node, begin, end) of the nodes with a span."""
        return list(self._spans)

    def told_spans(self):
        """Works out what spans returns."""
        told = [(node, self._tracer.span_of(self._traces[node])) for node in self._useful]
        return [(node, pair[0], pair[1]) for node, pair in told if pair is not None]

    def counted_places(self):
        """Returns a list of tuples: each useful node, and the list of the places that it covers or has."""
        return [(node, self._tracer.counted(self._traces[node])) for node in self._useful]

    def nodes_at_places(self):
        """Returns, for each place, the ascending list of the useful nodes that cover it or have its letter."""
        rows = [[] for _ in self._goal]
        for node, places in self.counted_places():
            for place in places:
                rows[place].append(node)
        return rows

    def lost_places(self):
        """Returns the ascending list of the places whose letters are lost items."""
        lost = {node: True for node in self._loss if node < self._net.width}
        return [place for place, letter in enumerate(self._goal) if letter in lost]

    def stray_letter(self):
        """Returns the first letter that is not an item, or None."""
        strays = [letter for letter in self._goal if letter >= self._net.width]
        return strays[0] if strays else None
