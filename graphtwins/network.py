"""Networks: replicas, and a channel from each to each other one."""

from graphtwins.channels import Channel
from graphtwins.errors import CodeError
from graphtwins.replicas import Replica
from graphtwins.snapshots import exchange_all


class Network:
    """Replicas of the first peers, and channels by tuples (sender, receiver)."""

    def __init__(self, many):
        peers = list(range(many))
        self.replicas = [Replica(peer) for peer in peers]
        self.channels = {(one, other): Channel() for one in peers for other in peers if one != other}

    def say(self, peer):
        """Send what is pending at a peer to all others; return whether there was anything."""
        octets = self.replicas[peer].send()
        if octets is None:
            return False
        for (sender, _), channel in self.channels.items():
            if sender == peer:
                channel.put(octets)
        return True

    def hand_on(self, one, other, sender, number):
        """Put a copy of a message that the first peer has into the channel to the other one."""
        self.channels[(one, other)].put(self.replicas[one].copy_of(sender, number))

    def deliver(self, one, other, place):
        """Hand a message of a channel to its receiver; return "new", "known" or "damaged"."""
        octets = self.channels[(one, other)].take(place)
        try:
            is_new = self.replicas[other].receive(octets)
        except CodeError:
            return "damaged"
        return "new" if is_new else "known"

    def under_way(self):
        """How many messages are under way in all channels."""
        return sum([len(channel.under_way) for channel in self.channels.values()])

    def settle(self):
        """Send all that is pending, and bring each replica what it lacks; return how many messages were brought."""
        # What is sent here goes into no channel: it is brought to all others right away.
        for replica in self.replicas:
            replica.send()
        return exchange_all(self.replicas)
