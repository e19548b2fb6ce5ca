"""Patches: what one state has over another one, and changes that lead from one to the other."""

from graphtwins.changes import is_later
from graphtwins.states import State


def patch(one, other):
    """The changes of the other state that the first one does not have yet, by ascending stamps."""
    return [
        (stamp, name, field, value) for stamp, name, field, value in other.changes()
        if is_later(stamp, one.stamp(name, field))
    ]


def applied(state, changes):
    """A state of its own with changes taken in."""
    twin = state.copy()
    for change in changes:
        twin.take(change)
    return twin


def differences(one, other):
    """The tuples (name, field, value, other value) where two states differ, ascending by name and field."""
    found = []
    for name, field in sorted(set(list(one.cells) + list(other.cells))):
        value = one.value(name, field)
        other_value = other.value(name, field)
        if value != other_value:
            found.append((name, field, value, other_value))
    return found


def needed(changes):
    """The changes that no later one for the same field hides, by ascending stamps."""
    return applied(State(), changes).changes()


def between(one, other, clock, peer):
    """For each difference of two states a change to the value of the other one, with the stamps behind a clock."""
    return [
        ((clock + at, peer), name, field, value)
        for at, (name, field, _, value) in enumerate(differences(one, other), start=1)
    ]
