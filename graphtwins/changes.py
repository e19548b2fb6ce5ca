"""Stamps and changes."""

from graphtwins.values import is_field, is_name, is_peer, is_value

GREATEST_CLOCK = 4294967295


def is_stamp(stamp):
    """Whether a tuple of two integers is a stamp."""
    clock, peer = stamp
    return 1 <= clock <= GREATEST_CLOCK and is_peer(peer)


def is_change(change):
    """Whether a tuple (stamp, name, field, value) is a change."""
    stamp, name, field, value = change
    return is_stamp(stamp) and is_name(name) and is_field(field) and is_value(value)


def is_later(stamp, other):
    """Whether a stamp is later than another one, or than None."""
    return other is None or stamp > other


def greatest_stamp(changes):
    """The latest stamp of some changes, or None."""
    return max([change[0] for change in changes], default=None)


def sorted_changes(changes):
    """The changes by ascending stamps, each once."""
    once = {change: True for change in changes}
    # Messages can hold unlike changes with one stamp. Name and field put these in order, too,
    # so that equal states tell their changes alike.
    return sorted(once, key=lambda change: (change[0], change[1], change[2]))
