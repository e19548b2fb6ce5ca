"""Octets of messages."""

from graphtwins.changes import GREATEST_CLOCK
from graphtwins.octets import number_octets, plain_octets, word_octets
from graphtwins.reading import NOTHING, OBJECT, Reader
from graphtwins.values import GREATEST_COUNT, GREATEST_PEER, LONGEST_FIELD, reference

GREATEST_NUMBER = 4294967295
MOST_CHANGES = 65535


def check_of(octets):
    """The two octets of the check sum of octets."""
    low = 0
    high = 0
    for octet in octets:
        low = (low + octet) % 256
        high = (high + low) % 256
    return [high, low]


def message_octets(sender, number, changes):
    """The octets of a message."""
    octets = number_octets(sender, 1) + number_octets(number, 4) + number_octets(len(changes), 2)
    for change in changes:
        octets.extend(_change_octets(change))
    return octets + check_of(octets)


def read_message(octets):
    """The message (sender, number, changes) that has these octets; raises CodeError."""
    reader = Reader(octets)
    sender = reader.next_octet(0, GREATEST_PEER)
    number = reader.next_number(4, 0, GREATEST_NUMBER)
    many = reader.next_number(2, 0, MOST_CHANGES)
    changes = []
    for _ in range(many):
        changes.append(_read_change(reader))
    high, low = check_of(octets[:reader.place])
    reader.next_octet(high, high)
    reader.next_octet(low, low)
    reader.finish()
    return (sender, number, changes)


def _change_octets(change):
    (clock, peer), name, field, value = change
    stamp_octets = number_octets(clock, 4) + number_octets(peer, 1)
    return stamp_octets + _name_octets(name) + word_octets(field) + _value_octets(value)


def _name_octets(name):
    peer, count = name
    return number_octets(peer, 1) + number_octets(count, 4)


def _value_octets(value):
    if value is None:
        return [NOTHING]
    if isinstance(value, tuple):
        return [OBJECT] + _name_octets(value[1])
    return plain_octets(value)


def _read_change(reader):
    clock = reader.next_number(4, 1, GREATEST_CLOCK)
    peer = reader.next_octet(0, GREATEST_PEER)
    name = _read_name(reader)
    field = reader.next_word(1, LONGEST_FIELD, "")
    return ((clock, peer), name, field, _read_value(reader))


def _read_name(reader):
    peer = reader.next_octet(0, GREATEST_PEER)
    return (peer, reader.next_number(4, 0, GREATEST_COUNT))


def _read_value(reader):
    kind = reader.next_octet(NOTHING, OBJECT)
    if kind == NOTHING:
        return None
    if kind == OBJECT:
        return reference(_read_name(reader))
    return reader.next_plain(kind)
