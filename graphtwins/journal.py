"""A journal: messages written octet by octet to a device that can lose its power."""

from graphtwins.errors import CodeError, PowerCut, ShutError
from graphtwins.octets import number_octets
from graphtwins.replicas import Replica
from graphtwins.wire import read_message

LENGTH_OCTETS = 3
END_OCTET = 170


class Device:
    """Octets, and how many more can still be written."""

    def __init__(self, octets, power):
        self.octets = list(octets)
        self.power = power

    def append(self, octet):
        """Write an octet behind the others."""
        if self.power <= 0:
            raise PowerCut(len(self.octets))
        self.octets.append(octet)
        self.power -= 1


class JournaledReplica:
    """A replica that writes a record of each message that it makes or newly gets to a device."""

    def __init__(self, replica, device):
        self.replica = replica
        self.device = device
        self.shut = False

    def send(self):
        """Send as the replica does, and write the message's record."""
        self._check_power()
        octets = self.replica.send()
        if octets is not None:
            self._write(octets)
        return octets

    def receive(self, message):
        """Get a message as the replica does, and write its record if it is new."""
        self._check_power()
        is_new = self.replica.receive(message)
        if is_new:
            self._write(message)
        return is_new

    def _check_power(self):
        if self.shut:
            raise ShutError()

    def _write(self, message):
        try:
            for octet in record_of(message):
                self.device.append(octet)
        except PowerCut:
            self.shut = True
            raise


def record_of(message):
    """The record of the octets of a message."""
    return number_octets(len(message), LENGTH_OCTETS) + list(message) + [END_OCTET]


def recovered(octets):
    """The messages (sender, number, changes) of the whole records, and how many octets these take."""
    messages = []
    taken = 0
    record = _whole_record(octets, taken)
    while record is not None:
        message, taken = record
        messages.append(message)
        record = _whole_record(octets, taken)
    return (messages, taken)


def opened(peer, octets, power):
    """The journaled replica of a peer and the octets of a device, without those behind the last whole record."""
    messages, taken = recovered(octets)
    replica = Replica(peer)
    for sender, number, changes in messages:
        replica.accept(sender, number, changes)
    return JournaledReplica(replica, Device(octets[:taken], power))


def _whole_record(octets, place):
    """The message of the record that begins at a place, and the place behind it; None if it is not whole."""
    begin = place + LENGTH_OCTETS
    if begin > len(octets):
        return None
    high, middle, low = octets[place:begin]
    end = begin + 65536 * high + 256 * middle + low
    if end >= len(octets) or octets[end] != END_OCTET:
        return None
    try:
        message = read_message(octets[begin:end])
    except CodeError:
        return None
    return (message, end + 1)
