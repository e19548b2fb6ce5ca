"""Cuts through the messages of replicas, snapshots of them, and replicas that have the same messages."""

from graphtwins.errors import NoSuchMessage
from graphtwins.graphs import numbered
from graphtwins.octets import graph_octets
from graphtwins.patches import applied
from graphtwins.ranges import bring
from graphtwins.states import State
from graphtwins.values import GREATEST_PEER


def state_of_cut(replica, version):
    """The state that the messages of each peer up to its number make."""
    _check_there(replica, version)
    changes = []
    for sender, greatest in enumerate(version):
        for number in range(1, greatest + 1):
            changes.extend(replica.messages[(sender, number)])
    return applied(State(), changes)


def snapshot(replica, version, roots):
    """The octets of the graph of a cut from some roots."""
    return graph_octets(numbered(state_of_cut(replica, version), roots))


def common_version(replicas):
    """For each peer the least of the numbers in the versions of replicas."""
    versions = [replica.version() for replica in replicas]
    return [min(numbers) for numbers in zip(*versions)]


def known_version(replicas):
    """For each peer the greatest number of a message of it that any of some replicas has, or 0."""
    version = [0] * (GREATEST_PEER + 1)
    for replica in replicas:
        for sender, number in replica.messages:
            version[sender] = max(version[sender], number)
    return version


def exchange_all(replicas):
    """Bring every message of any replica to all others; return how many times one was new somewhere."""
    many = 0
    for replica in replicas:
        for other in replicas:
            many += bring(replica, other)
    return many


def are_together(replicas):
    """Whether replicas have the same messages, and none has pending changes."""
    for replica in replicas:
        if replica.pending or replica.messages != replicas[0].messages:
            return False
    return True


def _check_there(replica, version):
    for sender, greatest in enumerate(version):
        # The replica has all messages up to this one, so the next one is the first that can lack.
        whole = replica.count(sender)
        if whole < greatest:
            raise NoSuchMessage(sender, whole + 1)
