"""States: the latest value of each field that was set."""

from graphtwins.changes import is_later, sorted_changes
from graphtwins.values import linked_name


class State:
    """For each field of each object that was set a stamp and a value."""

    def __init__(self):
        self.cells = {}

    def take(self, change):
        """Take a change in; return whether it makes a difference."""
        stamp, name, field, value = change
        if not is_later(stamp, self.stamp(name, field)):
            return False
        self.cells[(name, field)] = (stamp, value)
        return True

    def value(self, name, field):
        """The value of a field, None if it was never set."""
        if (name, field) not in self.cells:
            return None
        return self.cells[(name, field)][1]

    def stamp(self, name, field):
        """The stamp of a field, None if it was never set."""
        if (name, field) not in self.cells:
            return None
        return self.cells[(name, field)][0]

    def fields(self, name):
        """The fields of an object that have values, by ascending fields."""
        fields = [cell[1] for cell in self.cells if cell[0] == name]
        values = {}
        for field in sorted(fields):
            value = self.value(name, field)
            if value is not None:
                values[field] = value
        return values

    def names(self):
        """The names of the objects with fields that were set or to which fields refer, ascending."""
        mentioned = {}
        for (name, _), (_, value) in self.cells.items():
            mentioned[name] = True
            target = linked_name(value)
            if target is not None:
                mentioned[target] = True
        return sorted(mentioned)

    def changes(self):
        """The changes that make the state, by ascending stamps."""
        return sorted_changes([
            (stamp, name, field, value) for (name, field), (stamp, value) in self.cells.items()
        ])

    def copy(self):
        """A state of its own with the same cells."""
        twin = State()
        twin.cells = {cell: self.cells[cell] for cell in self.cells}
        return twin


def joined(one, other):
    """The join of two states, a state of its own."""
    join = one.copy()
    for change in other.changes():
        join.take(change)
    return join


def is_equal(one, other):
    """Whether two states have the same stamps and values."""
    return one.cells == other.cells


def is_below(one, other):
    """Whether a state is below another one."""
    for name, field in one.cells:
        if is_later(one.stamp(name, field), other.stamp(name, field)):
            return False
    return True
