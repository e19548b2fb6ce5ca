"""Replicas: what a peer holds."""

from graphtwins.errors import BadPeer, NoSuchMessage, NoSuchObject
from graphtwins.graphs import numbered
from graphtwins.states import State
from graphtwins.values import GREATEST_PEER, ROOT, is_peer, linked_name
from graphtwins.wire import message_octets, read_message


class Replica:
    """A state with its roots and messages, at one of the peers."""

    def __init__(self, peer):
        if not is_peer(peer):
            raise BadPeer(peer)
        self.peer = peer
        self.clock = 0
        # The first name of peer 0 is that of the root, which is everybody's.
        self.made = 1 if peer == ROOT[0] else 0
        self.state = State()
        self.roots = [ROOT]
        self.pending = []
        self.messages = {}

    def knows(self, name):
        """Whether an object is the root, was begun here, or is mentioned by the state."""
        return name == ROOT or self._has_begun(name) or name in self.state.names()

    def begin(self):
        """Begin an object; return its name."""
        self.made += 1
        return (self.peer, self.made - 1)

    def put(self, name, field, value):
        """Set a field of a known object, with None clear it; return the change."""
        self._check_known(name)
        target = linked_name(value)
        if target is not None:
            self._check_known(target)
        return self.set_field(name, field, value)

    def set_field(self, name, field, value):
        """Set a field, whether or not its object and the one referred to are known; return the change."""
        self.clock += 1
        change = ((self.clock, self.peer), name, field, value)
        self.state.take(change)
        self.pending.append(change)
        return change

    def hold(self, name):
        """Make a known object a root; return whether it was none."""
        self._check_known(name)
        if name in self.roots:
            return False
        self.roots.append(name)
        return True

    def drop(self, name):
        """Take an object out of the roots; return whether it was there, never for the root."""
        if name == ROOT or name not in self.roots:
            return False
        self.roots.remove(name)
        return True

    def count(self, sender):
        """The greatest number up to which all messages of a sender are here."""
        number = 0
        while (sender, number + 1) in self.messages:
            number += 1
        return number

    def version(self):
        """For each peer the greatest number up to which all its messages are here."""
        return [self.count(peer) for peer in range(GREATEST_PEER + 1)]

    def missing(self, sender, number):
        """The numbers from 1 up to a number of the messages of a sender that are not here."""
        return [at for at in range(1, number + 1) if (sender, at) not in self.messages]

    def send(self):
        """Put all pending changes into a message; return its octets, None without pending changes."""
        if not self.pending:
            return None
        number = self._last_number() + 1
        self.messages[(self.peer, number)] = list(self.pending)
        self.pending = []
        return self.copy_of(self.peer, number)

    def copy_of(self, sender, number):
        """The octets of a message that is here."""
        if (sender, number) not in self.messages:
            raise NoSuchMessage(sender, number)
        return message_octets(sender, number, self.messages[(sender, number)])

    def accept(self, sender, number, changes):
        """Take a message in; return whether it was new."""
        if (sender, number) in self.messages:
            return False
        self.messages[(sender, number)] = list(changes)
        for change in changes:
            self._take(change)
        return True

    def receive(self, octets):
        """Take a message in by its octets; return whether it was new."""
        sender, number, changes = read_message(octets)
        return self.accept(sender, number, changes)

    def graph(self):
        """The graph from the roots."""
        return numbered(self.state, self.roots)

    def _has_begun(self, name):
        peer, count = name
        return peer == self.peer and count < self.made

    def _check_known(self, name):
        if not self.knows(name):
            raise NoSuchObject(name)

    def _last_number(self):
        """The greatest number of an own message, 0 if there is none."""
        # Not the one in the version: where own messages came back with gaps, the lacking ones
        # may still be under way, and their numbers are used up.
        return max([number for sender, number in self.messages if sender == self.peer], default=0)

    def _take(self, change):
        (clock, _), (peer, count), _, _ = change
        self.state.take(change)
        self.clock = max(self.clock, clock)
        if peer == self.peer:
            self.made = max(self.made, count + 1)
