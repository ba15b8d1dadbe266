"""Desks: pieces of a plan arrive at them, get lost and are mended."""

from unseenfolds.costs import results_net
from unseenfolds.errors import BadIndex, Closed, NoNode, NoPiece, NotReady
from unseenfolds.folds import checked_goal
from unseenfolds.kinds import kind_named
from unseenfolds.lacking import mendable, wants
from unseenfolds.mending import Mending
from unseenfolds.nets import is_below
from unseenfolds.spans import Remains
from unseenfolds.strengths import strength_of


class DeskState:
    """What deeds change: the net, its standing nodes, ascending, and whether the desk has been closed.

    It never changes itself: a desk gets a new one, so that a trial can give the old one back.
    """

    def __init__(self, current, nodes, ended):
        self.current = current
        self.nodes = nodes
        self.ended = ended


class Desk:
    """A desk for a kind, a plan and a length."""

    def __init__(self, kind, plan, length):
        kind_named(kind)
        net, outcomes = results_net(plan, length)
        word = plan.word_at(length)
        checked_goal(kind, word)
        self.kind = kind
        self.length = length
        self._word = word
        self._outcomes = outcomes
        self._first_merges = net.merge_count
        self.state = DeskState(net, [], False)

    @property
    def goal(self):
        """The word of the plan."""
        return self._word

    @property
    def net(self):
        """The net as it is now."""
        return self.state.current

    @property
    def many(self):
        """The number of pieces."""
        return len(self._outcomes)

    @property
    def made(self):
        """The number of merges that settle made so far."""
        return self.state.current.merge_count - self._first_merges

    @property
    def closed(self):
        """True if the desk has been closed."""
        return self.state.ended

    def __iter__(self):
        return iter(self.state.nodes)

    def arrive(self, number):
        """Lets the outcome of a piece stand; returns True if it did not before. Raises Closed and NoPiece."""
        self.check_open()
        node = self.outcome_of(number)
        return False if node is None else self.stand(node)

    def bring(self, index):
        """Lets an item stand; returns True if it did not before. Raises Closed and BadIndex."""
        self.check_open()
        if not is_below(index, self.length):
            raise BadIndex(index)
        return self.stand(index)

    def lose(self, node):
        """Lets a standing node stand no more. Raises Closed and NoNode."""
        self.check_open()
        if node not in self.net or node not in self.state.nodes:
            raise NoNode(node)
        self.change(self.net, [other for other in self.state.nodes if other != node])

    def settle(self):
        """Makes an answer, if there is none; returns the number of merges made. Raises Closed and NotReady.

        Raises what the mending of the goal raises, too.
        """
        self.check_open()
        if self.answer() is not None:
            return 0
        if not self.ready():
            raise NotReady()
        net, _ = Mending(self.net, self.kind, self.goal, loss=self.lost()).mended()
        fresh = list(range(self.net.size, net.size))
        self.change(net, self.state.nodes + fresh)
        return len(fresh)

    def close(self):
        """Ends the deeds. Raises Closed if they have been ended."""
        self.check_open()
        self.state = DeskState(self.state.current, self.state.nodes, True)

    def check_open(self):
        """Raises Closed if the desk has been closed."""
        if self.state.ended:
            raise Closed()

    def stand(self, node):
        """Lets a node stand; returns True if it did not before."""
        if node in self.state.nodes:
            return False
        self.change(self.net, sorted(self.state.nodes + [node]))
        return True

    def change(self, net, nodes):
        """Takes another net and other standing nodes."""
        self.state = DeskState(net, nodes, self.state.ended)

    def standing(self):
        """Returns the ascending list of the nodes that stand."""
        return list(self.state.nodes)

    def lost(self):
        """Returns the ascending list of the nodes that do not stand."""
        standing = {node: True for node in self.state.nodes}
        return [node for node in range(self.net.size) if node not in standing]

    def outcome_of(self, number):
        """Returns the outcome of a piece, None for an empty one. Raises NoPiece."""
        if not is_below(number, len(self._outcomes)):
            raise NoPiece(number)
        return self._outcomes[number]

    def ready(self):
        """Returns True if the goal can be mended. Raises what mendable raises."""
        return mendable(self.net, self.kind, self.goal, loss=self.lost())

    def answer(self):
        """Returns the least standing node that is alike to the goal, or None."""
        nodes = Remains(self.net, self.kind, self.goal, loss=self.lost()).whole_nodes()
        return nodes[0] if nodes else None

    def wants(self):
        """Returns the ascending list of the items that would make the desk ready. Raises what wants raises."""
        return wants(self.net, self.kind, self.goal, loss=self.lost())

    def bears(self):
        """Returns how many nodes, whichever they are, may be lost, None if it is not ready. Raises as strength_of."""
        strength = strength_of(self.net, self.kind, self.goal, loss=self.lost())
        return strength - 1 if strength > 0 else None
