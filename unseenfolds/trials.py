"""Trials: deeds of a desk that are undone, and deeds told as tuples."""

from unseenfolds.errors import BadDeed

DEED_WORDS = ("arrive", "bring", "lose", "settle", "close", "trial")


class Trial:
    """A with block over a trial leaves the desk as it was, however the block ends."""

    def __init__(self, desk):
        self._desk = desk
        self._kept = desk.state

    def __enter__(self):
        self._kept = self._desk.state
        return self._desk

    def __exit__(self, kind, value, trace):
        self._desk.state = self._kept


def take(desk, deed):
    """Does a deed that is told as a tuple, and returns what it tells. Raises BadDeed, and what the deed raises."""
    word = deed[0]
    if not isinstance(word, str) or word not in DEED_WORDS:
        raise BadDeed(word)
    if word == "arrive":
        return desk.arrive(deed[1])
    if word == "bring":
        return desk.bring(deed[1])
    if word == "lose":
        return desk.lose(deed[1])
    if word == "settle":
        return desk.settle()
    if word == "close":
        return desk.close()
    return tried(desk, deed[1])


def play(desk, deeds):
    """Does deeds in turn, each when its answer is asked for, and yields what each tells. Raises what take raises."""
    for deed in deeds:
        yield take(desk, deed)


def tried(desk, deeds):
    """Does deeds in a trial, and returns the list of what each tells. Raises what take raises."""
    with Trial(desk):
        return list(play(desk, deeds))


def ready_without(desk, nodes):
    """Returns True if the desk would be ready if these nodes were lost, too. Raises what lose and ready raise."""
    with Trial(desk):
        for node in nodes:
            desk.lose(node)
        return desk.ready()
