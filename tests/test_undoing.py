"""[28] Undoing and redoing own changes."""

import copy
import random
import unittest

from graphtwins.errors import NoSuchObject
from graphtwins.replicas import Replica
from graphtwins.undoing import Undoer
from graphtwins.values import ROOT


def ref(name):
    return ("ref", name)


def picture(replica):
    return copy.deepcopy((
        replica.peer, replica.clock, replica.made, list(replica.state.cells.items()), replica.roots,
        replica.pending, list(replica.messages.items()),
    ))


class Case(unittest.TestCase):
    def setUp(self):
        self.replica = Replica(3)
        self.undoer = Undoer(self.replica)

    def value(self, field="a", name=ROOT):
        return self.replica.state.value(name, field)

    def foreign(self, clock, field, value, name=ROOT, peer=5):
        """Take a change of another peer in."""
        change = ((clock, peer), name, field, value)
        self.assertIs(self.replica.accept(peer, clock, [change]), True)
        return change

    def assert_new(self, change, name, field, value):
        """See that this is the newest change of the replica."""
        self.assertEqual(change, ((self.replica.clock, 3), name, field, value))
        self.assertEqual(self.replica.pending[-1], change)
        self.assertEqual(self.replica.state.stamp(name, field), change[0])
        self.assertEqual(self.replica.state.value(name, field), value)

    def assert_none_left(self, call):
        before = picture(self.replica)
        self.assertIsNone(call())
        self.assertEqual(picture(self.replica), before)


class PutCase(Case):
    def test_the_change(self):
        self.assertEqual(self.undoer.put(ROOT, "a", 7), ((1, 3), ROOT, "a", 7))
        self.foreign(8, "b", 1)
        name = self.replica.begin()
        change = self.undoer.put(name, "b", ref(ROOT))
        self.assertEqual(change, ((9, 3), name, "b", ref(ROOT)))
        self.assertEqual(self.replica.pending, [((1, 3), ROOT, "a", 7), change])
        self.assert_new(change, name, "b", ref(ROOT))

    def test_unknown_objects(self):
        self.undoer.put(ROOT, "a", 1)
        self.undoer.put(ROOT, "a", 2)
        self.undoer.undo()
        before = picture(self.replica)
        for name, value, unknown in (
            ((5, 1), 1, (5, 1)), (ROOT, ref((5, 2)), (5, 2)), ((5, 3), ref((5, 4)), (5, 3)), ((3, 0), None, (3, 0)),
        ):
            with self.assertRaises(NoSuchObject) as caught:
                self.undoer.put(name, "a", value)
            self.assertEqual(caught.exception.name, unknown)
            self.assertEqual(picture(self.replica), before)
        # What could be redone can still be redone, and then undone.
        self.assert_new(self.undoer.redo(), ROOT, "a", 2)
        self.assert_new(self.undoer.undo(), ROOT, "a", 1)

    def test_unknown_objects_leave_nothing_to_undo(self):
        with self.assertRaises(NoSuchObject):
            self.undoer.put((5, 1), "a", 1)
        self.assert_none_left(self.undoer.undo)
        self.assert_none_left(self.undoer.redo)


class HoldsCase(Case):
    def test_with_the_stamp_of_the_field(self):
        change = self.undoer.put(ROOT, "a", 1)
        self.assertIs(self.undoer.holds(change), True)
        cleared = self.undoer.put(ROOT, "b", None)
        self.assertIs(self.undoer.holds(cleared), True)
        self.replica.put(ROOT, "c", 1)
        self.assertIs(self.undoer.holds(change), True)

    def test_behind_a_later_change_of_the_same_peer(self):
        change = self.undoer.put(ROOT, "a", 1)
        later = self.replica.put(ROOT, "a", 1)
        self.assertIs(self.undoer.holds(change), False)
        self.assertIs(self.undoer.holds(later), True)

    def test_behind_a_later_change_of_another_peer(self):
        change = self.undoer.put(ROOT, "a", 1)
        later = self.foreign(1, "a", 1)
        self.assertIs(self.undoer.holds(change), False)
        self.assertIs(self.undoer.holds(later), True)

    def test_with_an_earlier_change_of_another_peer(self):
        change = self.undoer.put(ROOT, "a", 1)
        earlier = self.foreign(1, "a", 2, peer=2)
        self.assertIs(self.undoer.holds(change), True)
        self.assertIs(self.undoer.holds(earlier), False)

    def test_a_field_that_was_never_set(self):
        self.assertIs(self.undoer.holds(((1, 3), ROOT, "a", 1)), False)
        self.undoer.put(ROOT, "a", 1)
        self.assertIs(self.undoer.holds(((1, 3), ROOT, "b", 1)), False)
        self.assertIs(self.undoer.holds(((1, 3), (3, 0), "a", 1)), False)

    def test_nothing_changes(self):
        change = self.undoer.put(ROOT, "a", 1)
        before = picture(self.replica)
        self.undoer.holds(change)
        self.assertEqual(picture(self.replica), before)


class UndoCase(Case):
    def test_nothing_to_undo(self):
        self.assert_none_left(self.undoer.undo)
        self.replica.put(ROOT, "a", 1)
        self.foreign(9, "b", 1)
        self.assert_none_left(self.undoer.undo)

    def test_back_to_the_value_before(self):
        self.foreign(8, "a", "old")
        self.undoer.put(ROOT, "a", 7)
        self.assertEqual(self.undoer.undo(), ((10, 3), ROOT, "a", "old"))
        self.assertEqual(self.replica.pending, [((9, 3), ROOT, "a", 7), ((10, 3), ROOT, "a", "old")])
        self.assertEqual(self.value(), "old")
        self.assert_none_left(self.undoer.undo)

    def test_back_to_none(self):
        self.undoer.put(ROOT, "a", 7)
        self.assert_new(self.undoer.undo(), ROOT, "a", None)
        self.foreign(8, "b", None)
        self.undoer.put(ROOT, "b", 7)
        self.assert_new(self.undoer.undo(), ROOT, "b", None)

    def test_a_cleared_field(self):
        self.foreign(8, "a", 5)
        self.undoer.put(ROOT, "a", None)
        self.assert_new(self.undoer.undo(), ROOT, "a", 5)

    def test_the_last_one_first(self):
        name = self.replica.begin()
        self.undoer.put(ROOT, "a", 1)
        self.undoer.put(name, "a", 2)
        self.undoer.put(ROOT, "b", 3)
        self.assert_new(self.undoer.undo(), ROOT, "b", None)
        self.assert_new(self.undoer.undo(), name, "a", None)
        self.assert_new(self.undoer.undo(), ROOT, "a", None)
        self.assert_none_left(self.undoer.undo)

    def test_changes_that_hold_no_more_are_passed_over(self):
        self.undoer.put(ROOT, "a", 1)
        self.undoer.put(ROOT, "b", 2)
        self.undoer.put(ROOT, "c", 3)
        self.foreign(50, "b", 9)
        self.foreign(51, "c", 9)
        self.assert_new(self.undoer.undo(), ROOT, "a", None)
        self.assertEqual((self.value("b"), self.value("c")), (9, 9))
        self.assert_none_left(self.undoer.undo)

    def test_all_hold_no_more(self):
        self.undoer.put(ROOT, "a", 1)
        self.undoer.put(ROOT, "b", 1)
        self.foreign(50, "a", 1)
        self.foreign(51, "b", 1)
        self.assert_none_left(self.undoer.undo)
        self.assert_none_left(self.undoer.redo)

    def test_they_are_taken_off_for_good(self):
        # The change that hid the field's own one is let go; the own one does not come back.
        change = self.undoer.put(ROOT, "a", 1)
        self.foreign(50, "a", 9)
        self.assert_none_left(self.undoer.undo)
        self.replica.state.cells[(ROOT, "a")] = (change[0], 1)
        self.assertIs(self.undoer.holds(change), True)
        self.assert_none_left(self.undoer.undo)

    def test_two_changes_of_one_field(self):
        # Undoing the second one sets the field by a new change, so the first one holds no more.
        self.undoer.put(ROOT, "a", 1)
        self.undoer.put(ROOT, "a", 2)
        self.assert_new(self.undoer.undo(), ROOT, "a", 1)
        self.assert_none_left(self.undoer.undo)

    def test_changes_made_past_the_undoer(self):
        self.undoer.put(ROOT, "a", 1)
        self.undoer.put(ROOT, "b", 2)
        self.replica.put(ROOT, "b", 3)
        self.replica.put(ROOT, "c", 4)
        self.assert_new(self.undoer.undo(), ROOT, "a", None)
        self.assertEqual((self.value("b"), self.value("c")), (3, 4))
        self.assert_none_left(self.undoer.undo)

    def test_the_value_before_may_be_one_made_past_the_undoer(self):
        self.undoer.put(ROOT, "a", 1)
        self.replica.put(ROOT, "a", 2)
        self.undoer.put(ROOT, "a", 3)
        self.assert_new(self.undoer.undo(), ROOT, "a", 2)

    def test_earlier_changes_of_other_peers(self):
        for _ in range(4):
            self.undoer.put(ROOT, "b", 0)
        self.undoer.put(ROOT, "a", 1)
        self.foreign(2, "a", 9)
        self.assert_new(self.undoer.undo(), ROOT, "a", None)

    def test_another_field_of_another_peer_with_a_later_stamp(self):
        self.undoer.put(ROOT, "a", 1)
        self.foreign(70, "b", 9)
        self.assertEqual(self.undoer.undo(), ((71, 3), ROOT, "a", None))

    def test_behind_sending(self):
        self.undoer.put(ROOT, "a", 1)
        self.replica.send()
        change = self.undoer.undo()
        self.assertEqual(self.replica.pending, [change])

    def test_a_value_before_that_refers_to_an_object(self):
        name = self.replica.begin()
        self.undoer.put(ROOT, "a", ref(name))
        self.undoer.put(ROOT, "a", None)
        self.assert_new(self.undoer.undo(), ROOT, "a", ref(name))

    def test_a_value_before_that_refers_to_an_object_that_is_known_no_more(self):
        self.foreign(5, "a", ref((6, 0)))
        self.undoer.put(ROOT, "a", 1)
        self.assertIs(self.replica.knows((6, 0)), False)
        self.assert_new(self.undoer.undo(), ROOT, "a", ref((6, 0)))
        self.assertIs(self.replica.knows((6, 0)), True)

    def test_an_object_that_is_known_no_more(self):
        self.foreign(5, "a", 1, name=(6, 0))
        change = self.undoer.put((6, 0), "b", 2)
        del self.replica.state.cells[((6, 0), "a")]
        self.assertIs(self.undoer.holds(change), True)
        self.assert_new(self.undoer.undo(), (6, 0), "b", None)
        del self.replica.state.cells[((6, 0), "b")]
        self.assertIs(self.replica.knows((6, 0)), False)
        self.assert_none_left(self.undoer.redo)

    def test_fields_that_were_let_go(self):
        name = self.replica.begin()
        self.undoer.put(ROOT, "a", 1)
        self.undoer.put(name, "a", 1)
        del self.replica.state.cells[(name, "a")]
        self.assert_new(self.undoer.undo(), ROOT, "a", None)


class RedoCase(Case):
    def test_nothing_to_redo(self):
        self.assert_none_left(self.undoer.redo)
        self.undoer.put(ROOT, "a", 1)
        self.assert_none_left(self.undoer.redo)

    def test_once(self):
        self.foreign(4, "a", "old")
        self.undoer.put(ROOT, "a", 1)
        self.undoer.undo()
        self.assertEqual(self.undoer.redo(), ((7, 3), ROOT, "a", 1))
        self.assertEqual(self.value(), 1)
        self.assertEqual([change[0] for change in self.replica.pending], [(5, 3), (6, 3), (7, 3)])
        self.assert_none_left(self.undoer.redo)

    def test_the_last_undone_one_first(self):
        for field, value in (("a", 1), ("b", 2), ("c", None)):
            self.replica.put(ROOT, field, "old")
            self.undoer.put(ROOT, field, value)
        for _ in range(3):
            self.undoer.undo()
        self.assertEqual([self.value(field) for field in "abc"], ["old", "old", "old"])
        self.assert_new(self.undoer.redo(), ROOT, "a", 1)
        self.assert_new(self.undoer.redo(), ROOT, "b", 2)
        self.assert_new(self.undoer.redo(), ROOT, "c", None)
        self.assert_none_left(self.undoer.redo)

    def test_undone_again(self):
        self.foreign(4, "a", "old")
        self.undoer.put(ROOT, "a", 1)
        for _ in range(3):
            self.assert_new(self.undoer.undo(), ROOT, "a", "old")
            self.assert_new(self.undoer.redo(), ROOT, "a", 1)
        self.assert_new(self.undoer.undo(), ROOT, "a", "old")
        self.assert_none_left(self.undoer.undo)
        self.assert_new(self.undoer.redo(), ROOT, "a", 1)

    def test_redone_changes_are_undone_ahead_of_older_ones(self):
        self.undoer.put(ROOT, "a", 1)
        self.undoer.put(ROOT, "b", 2)
        self.undoer.undo()
        self.undoer.redo()
        self.assert_new(self.undoer.undo(), ROOT, "b", None)
        self.assert_new(self.undoer.undo(), ROOT, "a", None)
        self.assert_none_left(self.undoer.undo)

    def test_redoing_one_leaves_the_others_to_be_redone(self):
        self.undoer.put(ROOT, "a", 1)
        self.undoer.put(ROOT, "b", 2)
        self.undoer.undo()
        self.undoer.undo()
        self.undoer.redo()
        self.undoer.undo()
        self.assert_new(self.undoer.redo(), ROOT, "a", 1)
        self.assert_new(self.undoer.redo(), ROOT, "b", 2)

    def test_where_the_change_that_set_it_back_holds_no_more(self):
        for late in (lambda: self.foreign(50, "b", 9), lambda: self.replica.put(ROOT, "b", 9)):
            self.setUp()
            self.undoer.put(ROOT, "a", 1)
            self.undoer.put(ROOT, "b", 2)
            self.undoer.put(ROOT, "c", 3)
            for _ in range(3):
                self.undoer.undo()
            late()
            self.assert_new(self.undoer.redo(), ROOT, "a", 1)
            self.assert_new(self.undoer.redo(), ROOT, "c", 3)
            self.assertEqual(self.value("b"), 9)
            self.assert_none_left(self.undoer.redo)
            # The one that was passed over can't be undone either.
            self.assert_new(self.undoer.undo(), ROOT, "c", None)
            self.assert_new(self.undoer.undo(), ROOT, "a", None)
            self.assert_none_left(self.undoer.undo)

    def test_none_of_them_holds_any_more(self):
        self.undoer.put(ROOT, "a", 1)
        self.undoer.undo()
        self.foreign(50, "a", None)
        self.assert_none_left(self.undoer.redo)

    def test_a_new_own_change_forgets_what_could_be_redone(self):
        self.undoer.put(ROOT, "a", 1)
        self.undoer.undo()
        self.undoer.put(ROOT, "b", 2)
        self.assert_none_left(self.undoer.redo)
        self.assert_new(self.undoer.undo(), ROOT, "b", None)
        self.assert_none_left(self.undoer.undo)
        self.assert_new(self.undoer.redo(), ROOT, "b", 2)
        self.assert_none_left(self.undoer.redo)

    def test_changes_past_the_undoer_forget_nothing(self):
        self.undoer.put(ROOT, "a", 1)
        self.undoer.undo()
        self.replica.put(ROOT, "b", 2)
        self.foreign(50, "c", 9)
        self.assertEqual(self.undoer.redo(), ((51, 3), ROOT, "a", 1))

    def test_undoing_without_anything_left_forgets_nothing(self):
        self.undoer.put(ROOT, "a", 1)
        self.undoer.undo()
        self.undoer.undo()
        self.assert_new(self.undoer.redo(), ROOT, "a", 1)

    def test_a_value_that_refers_to_an_object_that_is_known_no_more(self):
        self.foreign(5, "a", ref((6, 0)))
        self.undoer.put(ROOT, "b", ref((6, 0)))
        self.undoer.undo()
        self.replica.put(ROOT, "a", None)
        self.assertIs(self.replica.knows((6, 0)), False)
        self.assert_new(self.undoer.redo(), ROOT, "b", ref((6, 0)))

    def test_an_object_that_is_known_no_more(self):
        # Only the cell that was set back mentions the object: it is known by that.
        self.foreign(5, "a", ref((6, 0)))
        self.undoer.put((6, 0), "b", 1)
        self.undoer.undo()
        self.replica.put(ROOT, "a", None)
        self.assert_new(self.undoer.redo(), (6, 0), "b", 1)


class TwoUndoersCase(Case):
    def test_they_share_nothing_but_the_replica(self):
        other = Undoer(self.replica)
        self.undoer.put(ROOT, "a", 1)
        self.assert_none_left(other.undo)
        other.put(ROOT, "b", 2)
        self.assert_new(self.undoer.undo(), ROOT, "a", None)
        self.assert_new(other.undo(), ROOT, "b", None)
        self.assert_new(self.undoer.redo(), ROOT, "a", 1)


class Model:
    """What [28] says, over the stamps and values of the fields of the root alone."""

    def __init__(self):
        self.cells = {}
        self.clock = 0
        self.done = []
        self.redoable = []

    def holds(self, change):
        return self.cells.get(change[1], (None, None))[0] == change[0]

    def take(self, change):
        if change[1] not in self.cells or change[0] > self.cells[change[1]][0]:
            self.cells[change[1]] = (change[0], change[2])
        self.clock = max(self.clock, change[0][0])

    def own(self, field, value):
        change = ((self.clock + 1, 3), field, value)
        self.take(change)
        return change

    def put(self, field, value):
        before = self.cells.get(field, (None, None))[1]
        self.done.append((self.own(field, value), before))
        self.redoable = []
        return self.done[-1][0]

    def undo(self):
        while self.done:
            change, before = self.done.pop()
            if self.holds(change):
                back = self.own(change[1], before)
                self.redoable.append((change, back, before))
                return back
        return None

    def redo(self):
        while self.redoable:
            change, back, before = self.redoable.pop()
            if self.holds(back):
                self.done.append((self.own(change[1], change[2]), before))
                return self.done[-1][0]
        return None


class RowsCase(Case):
    def test_rows_of_calls(self):
        chance = random.Random(28)
        for _ in range(200):
            self.setUp()
            model = Model()
            for number in range(1, 40):
                self.one_call(chance, model, number)
                self.assertEqual(
                    {field: cell for (_, field), cell in self.replica.state.cells.items()}, model.cells,
                )

    def one_call(self, chance, model, number):
        kind = chance.choice(["put", "put", "undo", "undo", "redo", "redo", "own", "foreign"])
        field, value = chance.choice("ab"), chance.choice([None, 1, 2, ref(ROOT)])
        if kind == "foreign":
            stamp = (max(1, self.replica.clock + chance.randrange(-3, 3)), 5)
            if not any(change[0] == stamp for changes in self.replica.messages.values() for change in changes):
                self.replica.accept(5, number, [(stamp, ROOT, field, value)])
                model.take((stamp, field, value))
            return
        calls = {
            "put": (lambda: self.undoer.put(ROOT, field, value), lambda: model.put(field, value)),
            "own": (lambda: self.replica.put(ROOT, field, value), lambda: model.own(field, value)),
            "undo": (self.undoer.undo, model.undo), "redo": (self.undoer.redo, model.redo),
        }
        change, expected = [call() for call in calls[kind]]
        if expected is not None:
            expected = (expected[0], ROOT, expected[1], expected[2])
        self.assertEqual(change, expected)


if __name__ == "__main__":
    unittest.main()
