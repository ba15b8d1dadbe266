"""Strength: the least number of further losses behind which a goal cannot be mended."""

from unseenfolds.blows import lost_with
from unseenfolds.flows import Flow, disjoint_covers
from unseenfolds.lacking import check_runs
from unseenfolds.spans import Remains


class Strength(Remains):
    """The strength of a goal, and what shows it."""

    def __init__(self, net, kind, goal, *, loss=()):
        super().__init__(net, kind, goal, loss=loss)
        check_runs(self)
        self._flow = Flow(self.spans(), len(self.goal)) if kind in ("list", "bag") else None
        self._sides = told_sides(self) if self._flow is None else []
        self._blow = min(self._sides)[2] if self._flow is None else self._flow.cut()

    @property
    def strength(self):
        """The least size of a blow."""
        return len(self._blow)

    def blow(self):
        """Returns a blow of least size, an ascending list."""
        return list(self._blow)

    def places(self):
        """Returns, under list and bag, the places out of which the spans of the blow lead, otherwise None."""
        return None if self._flow is None else self._flow.places()

    def weakest(self):
        """Returns the weakest place under heads and tails, the weakest letter under set, otherwise None."""
        return min(self._sides)[1] if self.kind in ("set", "heads", "tails") else None

    def mendings(self):
        """Returns a list of mendings no two of which share a node; None under set if the goal is not spanned."""
        if self._flow is not None:
            return self._flow.ways()
        if self.kind in ("first", "last", "ends"):
            return outer_mendings(self)
        return disjoint_covers(self.spans(), len(self.goal)) if self.spanned else None

    def __call__(self, nodes):
        loss = lost_with(self._net, self._loss, nodes)
        return Strength(self._net, self.kind, self.goal, loss=loss).strength

    def vital(self):
        """Returns the ascending list of the nodes that are in a blow of least size."""
        if self._flow is not None:
            return self._flow.narrow()
        least = len(self._blow)
        return sorted(set([node for many, _, side in self._sides for node in side if many == least]))


def told_sides(remains):
    """Returns a list of tuples: the size of a set of nodes that each mending has one of, a name for it, and its list.

    The name is the place, or the letter, that the nodes cover or have. The least of these sets is a blow of least size.
    """
    if remains.kind == "ends":
        sides = [remains.fronts(), remains.backs()]
    elif remains.kind in ("first", "last"):
        sides = [remains.useful()]
    else:
        sides = remains.nodes_at_places()
    names = remains.goal if remains.kind == "set" else list(range(len(sides)))
    return [(len(side), name, side) for name, side in zip(names, sides)]


def outer_mendings(remains):
    """Returns, under an outer kind, as many mendings as there can be if no two of them share a node."""
    whole = {node: True for node in remains.whole_nodes()}
    fronts = [node for node in remains.fronts() if node not in whole]
    backs = [node for node in remains.backs() if node not in whole]
    return [(node,) for node in whole] + list(zip(fronts, backs))


def strength_of(net, kind, goal, *, loss=()):
    """Returns the strength of the goal. Raises NotRuns."""
    return Strength(net, kind, goal, loss=loss).strength
