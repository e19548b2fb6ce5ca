"""Collection: letting go, at all replicas, the objects that no root of any of them reaches."""

from graphtwins.errors import NotTogether
from graphtwins.graphs import reachable
from graphtwins.snapshots import are_together


def marks(replica):
    """The names that the roots of a replica reach in its state, ascending."""
    return sorted(reachable(replica.state, replica.roots))


def let_go(replica, names):
    """Take all fields of some objects out of the state of a replica, as if they had never been set."""
    gone = {name: True for name in names}
    cells = replica.state.cells
    for name, field in list(cells):
        if name in gone:
            del cells[(name, field)]


def garbage(replicas):
    """The objects with fields that were set at one of some replicas, which the roots of none reach, ascending."""
    marked = {}
    for replica in replicas:
        for name in marks(replica):
            marked[name] = True
    found = [name for replica in replicas for name, _ in replica.state.cells if name not in marked]
    return sorted(set(found))


def collect(replicas):
    """Let the garbage of replicas that are together go; return the names, ascending."""
    if not are_together(replicas):
        raise NotTogether()
    gone = garbage(replicas)
    for replica in replicas:
        let_go(replica, gone)
    return gone
