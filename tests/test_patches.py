"""[27] Patches: what one state has over another one."""

import copy
import itertools
import random
import unittest

from graphtwins.patches import applied, between, differences, needed, patch
from graphtwins.states import State, is_below, is_equal, joined
from graphtwins.values import ROOT

A, B, C = (1, 0), (1, 1), (2, 0)


def ref(name):
    return ("ref", name)


def state_of(*changes):
    state = State()
    for change in changes:
        state.take(change)
    return state


def random_changes(chance, many):
    return [
        (
            (clock, chance.randrange(8)), chance.choice([ROOT, A, B]), chance.choice("ab"),
            chance.choice([None, 0, 1, "", "x", ref(ROOT), ref(A)]),
        )
        for clock in chance.sample(range(1, 50), many)
    ]


def values_of(state):
    return {cell: value for cell, (_, value) in state.cells.items() if value is not None}


class PatchCase(unittest.TestCase):
    def test_later_changes(self):
        one = state_of(((2, 1), A, "a", 1), ((5, 1), A, "b", 2))
        other = state_of(((2, 2), A, "a", 3), ((6, 0), A, "b", None))
        self.assertEqual(patch(one, other), [((2, 2), A, "a", 3), ((6, 0), A, "b", None)])

    def test_fields_that_were_not_set(self):
        other = state_of(((9, 1), A, "a", 1), ((3, 2), C, "b", None), ((3, 1), ROOT, "c", ref(A)))
        changes = [((3, 1), ROOT, "c", ref(A)), ((3, 2), C, "b", None), ((9, 1), A, "a", 1)]
        self.assertEqual(patch(State(), other), changes)
        self.assertEqual(patch(state_of(((1, 1), A, "b", 1), ((1, 2), B, "a", 1)), other), changes)

    def test_equal_states(self):
        state = state_of(((9, 1), A, "a", 1), ((3, 2), C, "b", None))
        self.assertEqual(patch(state, state), [])
        self.assertEqual(patch(state, state.copy()), [])
        self.assertEqual(patch(State(), State()), [])

    def test_earlier_changes(self):
        one = state_of(((9, 1), A, "a", 1), ((3, 2), C, "b", None))
        self.assertEqual(patch(one, state_of(((8, 7), A, "a", 2), ((3, 1), C, "b", 3))), [])
        self.assertEqual(patch(one, State()), [])

    def test_some_of_all(self):
        one = state_of(((9, 1), A, "a", 1), ((3, 2), C, "b", None), ((4, 4), B, "b", 4))
        other = state_of(((9, 2), A, "a", 1), ((3, 2), C, "b", None), ((4, 3), B, "b", 5), ((1, 1), B, "a", None))
        self.assertEqual(patch(one, other), [((1, 1), B, "a", None), ((9, 2), A, "a", 1)])

    def test_nothing_is_changed(self):
        one, other = state_of(((9, 1), A, "a", 1)), state_of(((9, 2), A, "a", 1), ((3, 2), C, "b", None))
        before = copy.deepcopy((one.cells, other.cells))
        patch(one, other).clear()
        self.assertEqual((one.cells, other.cells), before)

    def test_applied_it_makes_the_join_and_no_shorter_list_does(self):
        chance = random.Random(27)
        for _ in range(300):
            one = state_of(*random_changes(chance, chance.randrange(6)))
            other = state_of(*random_changes(chance, chance.randrange(6)))
            changes = patch(one, other)
            self.assertEqual(changes, sorted(changes))
            self.assertTrue(is_equal(applied(one, changes), joined(one, other)))
            for left_out in range(len(changes)):
                rest = changes[:left_out] + changes[left_out + 1:]
                self.assertFalse(is_equal(applied(one, rest), joined(one, other)))


class AppliedCase(unittest.TestCase):
    def test_a_state_of_its_own(self):
        state = state_of(((5, 1), A, "a", 1), ((5, 2), A, "b", 2))
        before = copy.deepcopy(state.cells)
        changes = [((6, 1), A, "a", None), ((4, 1), A, "b", 7), ((1, 1), B, "a", ref(A)), ((2, 1), B, "a", 1)]
        twin = applied(state, changes)
        self.assertIsInstance(twin, State)
        self.assertEqual(twin.cells, {(A, "a"): ((6, 1), None), (A, "b"): ((5, 2), 2), (B, "a"): ((2, 1), 1)})
        self.assertEqual(state.cells, before)
        twin.take(((9, 9), A, "b", 9))
        self.assertEqual(state.cells, before)
        self.assertEqual(len(changes), 4)

    def test_without_changes(self):
        state = state_of(((5, 1), A, "a", 1))
        twin = applied(state, [])
        self.assertTrue(is_equal(twin, state))
        self.assertIsNot(twin, state)

    def test_the_join(self):
        chance = random.Random(28)
        for _ in range(200):
            state = state_of(*random_changes(chance, chance.randrange(6)))
            changes = random_changes(chance, chance.randrange(6))
            self.assertTrue(is_equal(applied(state, changes), joined(state, state_of(*changes))))
            self.assertTrue(is_below(state, applied(state, changes)))


class DifferencesCase(unittest.TestCase):
    def test_values_that_differ(self):
        one = state_of(((1, 1), A, "a", 1), ((2, 1), A, "b", "x"), ((3, 1), B, "a", ref(A)), ((4, 1), B, "b", 4))
        other = state_of(((9, 1), A, "a", 2), ((8, 1), A, "b", "x"), ((7, 1), B, "a", ref(B)), ((6, 1), B, "b", "d"))
        self.assertEqual(differences(one, other), [
            (A, "a", 1, 2), (B, "a", ref(A), ref(B)), (B, "b", 4, "d"),
        ])

    def test_stamps_make_no_difference(self):
        self.assertEqual(differences(state_of(((1, 1), A, "a", 1)), state_of(((2, 1), A, "a", 1))), [])

    def test_fields_that_one_of_them_has(self):
        state = state_of(((1, 1), A, "a", 0), ((1, 2), C, "b", ""))
        self.assertEqual(differences(state, State()), [(A, "a", 0, None), (C, "b", "", None)])
        self.assertEqual(differences(State(), state), [(A, "a", None, 0), (C, "b", None, "")])

    def test_cleared_fields(self):
        cleared = state_of(((5, 1), A, "a", None))
        self.assertEqual(differences(cleared, State()), [])
        self.assertEqual(differences(State(), cleared), [])
        self.assertEqual(differences(cleared, state_of(((1, 1), A, "a", None))), [])
        self.assertEqual(differences(cleared, state_of(((1, 1), A, "a", 3))), [(A, "a", None, 3)])
        self.assertEqual(differences(state_of(((1, 1), A, "a", 3)), cleared), [(A, "a", 3, None)])

    def test_ascending_by_name_and_field(self):
        one = state_of(((1, 1), B, "b", 1), ((9, 1), (2, 0), "a", 1), ((5, 1), (1, 10), "a", 1))
        other = state_of(((2, 1), B, "aa", 2), ((1, 0), ROOT, "z", 2), ((3, 1), (1, 2), "a", 2), ((4, 1), B, "b", 2))
        self.assertEqual([(name, field) for name, field, _, _ in differences(one, other)], [
            (ROOT, "z"), (B, "aa"), (B, "b"), ((1, 2), "a"), ((1, 10), "a"), ((2, 0), "a"),
        ])

    def test_nothing_is_changed(self):
        one, other = state_of(((9, 1), A, "a", 1)), state_of(((9, 2), A, "a", 2), ((3, 2), C, "b", None))
        before = copy.deepcopy((one.cells, other.cells))
        differences(one, other).clear()
        self.assertEqual((one.cells, other.cells), before)

    def test_by_definition(self):
        chance = random.Random(29)
        for _ in range(300):
            one = state_of(*random_changes(chance, chance.randrange(6)))
            other = state_of(*random_changes(chance, chance.randrange(6)))
            self.assertEqual(differences(one, other), [
                (name, field, one.value(name, field), other.value(name, field))
                for name in (ROOT, A, B) for field in "ab"
                if one.value(name, field) != other.value(name, field)
            ])


class NeededCase(unittest.TestCase):
    def test_several_changes_for_one_field(self):
        changes = [((3, 1), A, "a", 1), ((4, 0), A, "a", None), ((2, 7), A, "a", 3), ((1, 1), A, "b", 4)]
        for order in itertools.permutations(changes):
            self.assertEqual(needed(list(order)), [((1, 1), A, "b", 4), ((4, 0), A, "a", None)])

    def test_fields_and_objects_are_told_apart(self):
        changes = [((3, 1), A, "a", 1), ((2, 1), A, "b", 1), ((1, 1), B, "a", 1)]
        self.assertEqual(needed(changes), changes[::-1])

    def test_changes_given_twice(self):
        one, other = ((3, 1), A, "a", 1), ((2, 1), B, "a", 1)
        self.assertEqual(needed([one, other, one, one, other]), [other, one])

    def test_none(self):
        self.assertEqual(needed([]), [])

    def test_the_list_stays_as_it_is(self):
        changes = [((3, 1), A, "a", 1), ((2, 1), A, "a", 2)]
        needed(changes).clear()
        self.assertEqual(changes, [((3, 1), A, "a", 1), ((2, 1), A, "a", 2)])

    def test_by_definition(self):
        chance = random.Random(30)
        for _ in range(200):
            changes = random_changes(chance, chance.randrange(10))
            changes = changes + [chance.choice(changes) for _ in range(chance.randrange(3)) if changes]
            self.assertEqual(needed(changes), sorted(
                change for change in set(changes)
                if not any(other[0] > change[0] and other[1:3] == change[1:3] for other in changes)
            ))
            self.assertTrue(is_equal(state_of(*needed(changes)), state_of(*changes)))


class BetweenCase(unittest.TestCase):
    def test_one_for_each_difference_in_order(self):
        one = state_of(((1, 1), A, "a", 1), ((2, 1), A, "b", "x"), ((3, 1), B, "a", ref(A)))
        other = state_of(((9, 1), A, "a", 2), ((8, 1), A, "b", "x"), ((6, 1), ROOT, "b", "d"))
        self.assertEqual(between(one, other, 7, 5), [
            ((8, 5), ROOT, "b", "d"), ((9, 5), A, "a", 2), ((10, 5), B, "a", None),
        ])

    def test_behind_the_clock_0(self):
        self.assertEqual(between(State(), state_of(((9, 1), A, "a", ref(C))), 0, 0), [((1, 0), A, "a", ref(C))])

    def test_to_a_cleared_field(self):
        one, other = state_of(((1, 1), A, "a", 1)), state_of(((7, 1), A, "a", None))
        self.assertEqual(between(one, other, 1, 2), [((2, 2), A, "a", None)])
        self.assertEqual(between(other, one, 7, 2), [((8, 2), A, "a", 1)])

    def test_without_differences(self):
        one, other = state_of(((1, 1), A, "a", None)), state_of(((7, 1), B, "a", None))
        self.assertEqual(between(one, other, 9, 2), [])
        self.assertEqual(between(one, one, 9, 2), [])

    def test_with_it_the_first_state_has_the_values_of_the_other_one(self):
        chance = random.Random(31)
        for _ in range(300):
            one = state_of(*random_changes(chance, chance.randrange(7)))
            other = state_of(*random_changes(chance, chance.randrange(7)))
            before = copy.deepcopy((one.cells, other.cells))
            greatest = max([stamp[0] for stamp, _ in one.cells.values()], default=0)
            clock, peer = greatest + chance.randrange(3), chance.randrange(8)
            changes = between(one, other, clock, peer)
            self.assertEqual([stamp for stamp, _, _, _ in changes], [
                (clock + at + 1, peer) for at in range(len(differences(one, other)))
            ])
            self.assertEqual(values_of(applied(one, changes)), values_of(other))
            self.assertEqual((one.cells, other.cells), before)


if __name__ == "__main__":
    unittest.main()
