"""Undoing: setting fields back to the values before, and setting them anew."""


class Undoer:
    """The own changes that were made through it at a replica, to be undone and redone."""

    def __init__(self, replica):
        self.replica = replica
        # Tuples (change, value before), the last one made at the end.
        self.made = []
        # Tuples (undone change, change that set the field back), the last one undone at the end.
        self.undone = []

    def put(self, name, field, value):
        """Set a field as the replica does, and forget what could be redone; return the change."""
        before = self.replica.state.value(name, field)
        change = self.replica.put(name, field, value)
        self.made.append((change, before))
        self.undone = []
        return change

    def holds(self, change):
        """Whether the field of a change has its stamp at the replica."""
        stamp, name, field, _ = change
        return self.replica.state.stamp(name, field) == stamp

    def undo(self):
        """Set the field of the last change that holds back; return the new change, None if there was none."""
        while self.made:
            change, before = self.made.pop()
            if self.holds(change):
                _, name, field, _ = change
                back = self.replica.set_field(name, field, before)
                self.undone.append((change, back))
                return back
        return None

    def redo(self):
        """Set the field of the last undone change anew; return the new change, None if there was none to redo."""
        while self.undone:
            change, back = self.undone.pop()
            if self.holds(back):
                _, name, field, value = change
                before = self.replica.state.value(name, field)
                again = self.replica.set_field(name, field, value)
                self.made.append((again, before))
                return again
        return None
