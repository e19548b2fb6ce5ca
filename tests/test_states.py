"""[5] [6] [7] States: taking, below, join."""

import itertools
import random
import unittest

from graphtwins.states import State, is_below, is_equal, joined

ROOT = (0, 0)
ONE = (1, 5)
TWO = (2, 0)


def state_of(*rows):
    state = State()
    for row in rows:
        for change in row:
            state.take(change)
    return state


def some_changes(chance, many):
    """Changes with different stamps, for few fields, so that many of them meet."""
    stamps = [(clock, peer) for clock in range(1, 7) for peer in (0, 1, 7)]
    values = [None, None, 0, 1, -7, "", "ab", ("ref", ROOT), ("ref", ONE), ("ref", (4, 4))]
    return [
        (stamp, chance.choice([ROOT, ONE, TWO]), chance.choice(["a", "ab", "b"]), chance.choice(values))
        for stamp in chance.sample(stamps, many)
    ]


class TakeCase(unittest.TestCase):
    def test_a_new_state_has_nothing(self):
        state = State()
        self.assertEqual(state.cells, {})
        self.assertEqual(state.names(), [])
        self.assertEqual(state.changes(), [])
        self.assertEqual(state.fields(ROOT), {})
        self.assertIsNot(State().cells, state.cells)

    def test_a_first_setting(self):
        state = State()
        self.assertIs(state.take(((3, 1), ROOT, "a", 5)), True)
        self.assertEqual(state.cells, {(ROOT, "a"): ((3, 1), 5)})

    def test_a_later_setting(self):
        for stamp in ((4, 0), (3, 2)):
            state = state_of([((3, 1), ROOT, "a", 5)])
            self.assertIs(state.take((stamp, ROOT, "a", "new")), True)
            self.assertEqual(state.cells, {(ROOT, "a"): (stamp, "new")})

    def test_an_earlier_setting(self):
        for stamp in ((2, 7), (3, 0)):
            state = state_of([((3, 1), ROOT, "a", 5)])
            self.assertIs(state.take((stamp, ROOT, "a", "new")), False)
            self.assertEqual(state.cells, {(ROOT, "a"): ((3, 1), 5)})

    def test_the_same_stamp(self):
        state = state_of([((3, 1), ROOT, "a", 5)])
        self.assertIs(state.take(((3, 1), ROOT, "a", 5)), False)
        self.assertEqual(state.cells, {(ROOT, "a"): ((3, 1), 5)})

    def test_a_later_setting_to_the_same_value_makes_a_difference(self):
        state = state_of([((3, 1), ROOT, "a", 5)])
        self.assertIs(state.take(((4, 1), ROOT, "a", 5)), True)
        self.assertEqual(state.stamp(ROOT, "a"), (4, 1))

    def test_other_fields_and_objects_stay(self):
        state = state_of([((3, 1), ROOT, "a", 5)])
        self.assertIs(state.take(((1, 1), ROOT, "b", 6)), True)
        self.assertIs(state.take(((2, 1), ONE, "a", 7)), True)
        self.assertEqual(state.cells, {
            (ROOT, "a"): ((3, 1), 5), (ROOT, "b"): ((1, 1), 6), (ONE, "a"): ((2, 1), 7),
        })

    def test_clearing(self):
        state = state_of([((3, 1), ROOT, "a", 5)])
        self.assertIs(state.take(((4, 1), ROOT, "a", None)), True)
        self.assertEqual(state.cells, {(ROOT, "a"): ((4, 1), None)})
        self.assertIs(state.take(((3, 2), ROOT, "a", 6)), False)
        self.assertIsNone(state.value(ROOT, "a"))
        self.assertIs(state.take(((4, 2), ROOT, "a", 7)), True)
        self.assertEqual(state.value(ROOT, "a"), 7)

    def test_clearing_first(self):
        state = State()
        self.assertIs(state.take(((3, 1), ROOT, "a", None)), True)
        self.assertEqual(state.cells, {(ROOT, "a"): ((3, 1), None)})
        self.assertIs(state.take(((2, 1), ROOT, "a", 5)), False)

    def test_an_earlier_clearing_makes_no_difference(self):
        state = state_of([((3, 1), ROOT, "a", 5)])
        self.assertIs(state.take(((2, 1), ROOT, "a", None)), False)
        self.assertEqual(state.value(ROOT, "a"), 5)


class TellCase(unittest.TestCase):
    def setUp(self):
        self.changes = [
            ((1, 0), ROOT, "b", 1),
            ((1, 1), ONE, "zz", "ab"),
            ((2, 0), ROOT, "ab", ("ref", (7, 9))),
            ((3, 0), ROOT, "z", None),
            ((3, 5), TWO, "a", None),
            ((9, 0), ROOT, "a", ""),
            ((10, 0), ROOT, "c", 0),
        ]
        self.state = state_of(reversed(self.changes))

    def test_value_and_stamp(self):
        self.assertEqual(self.state.value(ROOT, "b"), 1)
        self.assertEqual(self.state.stamp(ROOT, "b"), (1, 0))
        self.assertEqual(self.state.value(ROOT, "ab"), ("ref", (7, 9)))
        self.assertIsNone(self.state.value(ROOT, "z"))
        self.assertEqual(self.state.stamp(ROOT, "z"), (3, 0))

    def test_value_and_stamp_of_fields_that_were_never_set(self):
        for name, field in ((ROOT, "y"), (ONE, "b"), ((6, 6), "a"), ((7, 9), "a")):
            self.assertIsNone(self.state.value(name, field))
            self.assertIsNone(self.state.stamp(name, field))
        self.assertEqual(len(self.state.cells), 7)

    def test_fields(self):
        self.assertEqual(
            list(self.state.fields(ROOT).items()),
            [("a", ""), ("ab", ("ref", (7, 9))), ("b", 1), ("c", 0)],
        )
        self.assertEqual(self.state.fields(ONE), {"zz": "ab"})
        self.assertEqual(self.state.fields(TWO), {})
        self.assertEqual(self.state.fields((7, 9)), {})
        self.assertIsInstance(self.state.fields(ROOT), dict)

    def test_names(self):
        self.assertEqual(self.state.names(), [ROOT, ONE, TWO, (7, 9)])

    def test_names_ascend_as_tuples(self):
        state = state_of([((1, 0), (1, 10), "a", ("ref", (1, 9))), ((2, 0), (0, 11), "a", ("ref", (0, 11)))])
        self.assertEqual(state.names(), [(0, 11), (1, 9), (1, 10)])

    def test_names_to_which_fields_once_referred(self):
        state = state_of([((1, 0), ONE, "a", ("ref", TWO)), ((2, 0), ONE, "b", ("ref", (3, 3)))])
        self.assertEqual(state.names(), [ONE, TWO, (3, 3)])
        state.take(((3, 0), ONE, "a", None))
        self.assertEqual(state.names(), [ONE, (3, 3)])
        state.take(((4, 0), ONE, "b", ("ref", (4, 4))))
        self.assertEqual(state.names(), [ONE, (4, 4)])

    def test_texts_are_no_references(self):
        self.assertEqual(state_of([((1, 0), ONE, "a", "ref")]).names(), [ONE])

    def test_changes(self):
        self.assertEqual(self.state.changes(), self.changes)

    def test_changes_one_for_each_field(self):
        self.state.take(((11, 3), ROOT, "b", None))
        self.assertEqual(self.state.changes(), self.changes[1:] + [((11, 3), ROOT, "b", None)])

    def test_changes_make_the_state(self):
        self.assertTrue(is_equal(state_of(self.state.changes()), self.state))

    def test_what_is_handed_out_is_new(self):
        cells = dict(self.state.cells)
        self.state.names().clear()
        self.state.changes().clear()
        self.state.fields(ROOT).clear()
        self.assertEqual(self.state.cells, cells)
        self.assertEqual(self.state.names(), [ROOT, ONE, TWO, (7, 9)])
        self.assertEqual(self.state.changes(), self.changes)
        self.assertEqual(len(self.state.fields(ROOT)), 4)

    def test_asking_changes_nothing(self):
        cells = list(self.state.cells.items())
        self.state.value((5, 5), "q")
        self.state.stamp((5, 5), "q")
        self.state.fields((5, 5))
        self.assertEqual(list(self.state.cells.items()), cells)

    def test_a_copy_goes_its_own_way(self):
        twin = self.state.copy()
        self.assertIsInstance(twin, State)
        self.assertEqual(twin.cells, self.state.cells)
        before = dict(self.state.cells)
        twin.take(((20, 0), ROOT, "b", 99))
        twin.take(((21, 0), (6, 6), "b", 99))
        self.assertEqual(self.state.cells, before)
        self.assertEqual(twin.value(ROOT, "b"), 99)
        twin = self.state.copy()
        self.state.take(((30, 0), ROOT, "b", 98))
        self.assertEqual(twin.cells, before)


class BelowCase(unittest.TestCase):
    def assert_below(self, one, other, there, back):
        cells = (dict(one.cells), dict(other.cells))
        self.assertIs(is_below(one, other), there)
        self.assertIs(is_below(other, one), back)
        self.assertEqual((one.cells, other.cells), cells)

    def test_empty_states(self):
        self.assert_below(State(), State(), True, True)
        self.assert_below(State(), state_of([((1, 0), ROOT, "a", None)]), True, False)

    def test_a_later_stamp(self):
        one = state_of([((1, 0), ROOT, "a", 1), ((5, 0), ROOT, "b", 1)])
        self.assert_below(one, state_of([((2, 0), ROOT, "a", 1), ((5, 0), ROOT, "b", 1)]), True, False)
        self.assert_below(one, state_of([((1, 1), ROOT, "a", 1), ((5, 0), ROOT, "b", 1)]), True, False)

    def test_equal_stamps(self):
        changes = [((1, 0), ROOT, "a", 1), ((5, 0), ROOT, "b", 1)]
        self.assert_below(state_of(changes), state_of(reversed(changes)), True, True)

    def test_a_field_in_only_one_of_the_two(self):
        one = state_of([((1, 0), ROOT, "a", 1)])
        self.assert_below(one, state_of([((1, 0), ROOT, "a", 1), ((9, 0), ROOT, "b", 1)]), True, False)
        self.assert_below(one, state_of([((9, 0), ROOT, "b", 1)]), False, False)
        self.assert_below(one, state_of([((9, 0), ONE, "a", 1)]), False, False)

    def test_neither_way(self):
        one = state_of([((1, 0), ROOT, "a", 1), ((4, 0), ROOT, "b", 1)])
        other = state_of([((2, 0), ROOT, "a", 1), ((3, 0), ROOT, "b", 1)])
        self.assert_below(one, other, False, False)

    def test_cleared_fields_were_set(self):
        one = state_of([((1, 0), ROOT, "a", None)])
        self.assert_below(one, State(), False, True)
        self.assert_below(one, state_of([((2, 0), ROOT, "a", 5)]), True, False)


class EqualCase(unittest.TestCase):
    def test_equal(self):
        changes = [((1, 0), ROOT, "a", 1), ((5, 0), ROOT, "b", ("ref", ONE))]
        self.assertIs(is_equal(State(), State()), True)
        self.assertIs(is_equal(state_of(changes), state_of(reversed(changes))), True)

    def test_unequal(self):
        one = state_of([((1, 0), ROOT, "a", 1)])
        for change in (((2, 0), ROOT, "a", 1), ((1, 1), ROOT, "a", 1), ((1, 0), ONE, "a", 1),
                       ((1, 0), ROOT, "b", 1), ((1, 0), ROOT, "a", None)):
            self.assertIs(is_equal(one, state_of([change])), False, change)
            self.assertIs(is_equal(state_of([change]), one), False, change)
        self.assertIs(is_equal(one, State()), False)
        self.assertIs(is_equal(State(), one), False)
        self.assertIs(is_equal(State(), state_of([((1, 0), ROOT, "a", None)])), False)


class JoinCase(unittest.TestCase):
    def setUp(self):
        self.one = state_of([
            ((1, 0), ROOT, "a", 1), ((6, 0), ROOT, "b", 2), ((3, 0), ROOT, "c", 3), ((2, 2), ONE, "a", 4),
            ((7, 1), TWO, "a", None), ((2, 1), TWO, "b", "x"),
        ])
        self.other = state_of([
            ((2, 0), ROOT, "a", 11), ((5, 0), ROOT, "b", 12), ((3, 0), ROOT, "c", 3), ((4, 4), ONE, "b", 14),
            ((7, 0), TWO, "a", 15), ((2, 3), TWO, "b", None),
        ])
        self.expected = {
            (ROOT, "a"): ((2, 0), 11), (ROOT, "b"): ((6, 0), 2), (ROOT, "c"): ((3, 0), 3),
            (ONE, "a"): ((2, 2), 4), (ONE, "b"): ((4, 4), 14),
            (TWO, "a"): ((7, 1), None), (TWO, "b"): ((2, 3), None),
        }

    def test_each_way_round(self):
        self.assertEqual(joined(self.one, self.other).cells, self.expected)
        self.assertEqual(joined(self.other, self.one).cells, self.expected)

    def test_with_an_empty_state(self):
        for join in (joined(self.one, State()), joined(State(), self.one)):
            self.assertIsInstance(join, State)
            self.assertEqual(join.cells, self.one.cells)

    def test_neither_state_is_changed(self):
        cells = (dict(self.one.cells), dict(self.other.cells))
        joined(self.one, self.other)
        self.assertEqual((self.one.cells, self.other.cells), cells)

    def test_the_join_is_a_state_of_its_own(self):
        for one, other in ((self.one, self.other), (self.one, State()), (State(), self.one), (self.one, self.one)):
            cells = (dict(one.cells), dict(other.cells))
            joined(one, other).take(((50, 0), ROOT, "a", 50))
            self.assertEqual((one.cells, other.cells), cells)

    def test_the_least_state_above_both(self):
        join = joined(self.one, self.other)
        self.assertTrue(is_below(self.one, join))
        self.assertTrue(is_below(self.other, join))
        above = state_of(self.one.changes(), self.other.changes(), [((60, 0), (5, 5), "a", 1)])
        self.assertTrue(is_below(join, above))
        self.assertFalse(is_below(above, join))


class FactsCase(unittest.TestCase):
    def test_every_order_makes_the_same_state(self):
        changes = [
            ((1, 0), ROOT, "a", 1), ((2, 0), ROOT, "a", None), ((2, 1), ROOT, "a", 3),
            ((1, 1), ROOT, "b", ("ref", ONE)), ((3, 0), ONE, "b", 5),
        ]
        for row in itertools.permutations(changes):
            self.assertEqual(state_of(row).cells, {
                (ROOT, "a"): ((2, 1), 3), (ROOT, "b"): ((1, 1), ("ref", ONE)), (ONE, "b"): ((3, 0), 5),
            })

    def test_the_latest_stamp_wins_however_often_changes_are_taken(self):
        chance = random.Random(1)
        for _ in range(200):
            changes = some_changes(chance, chance.randrange(1, 13))
            row = changes + [chance.choice(changes) for _ in range(5)]
            chance.shuffle(row)
            latest = {}
            for stamp, name, field, value in sorted(changes, key=lambda change: change[0]):
                latest[(name, field)] = (stamp, value)
            self.assertEqual(state_of(row).cells, latest)
            self.assertEqual(state_of(row, row).cells, latest)

    def test_taking_tells_whether_the_cells_differ(self):
        chance = random.Random(2)
        for _ in range(100):
            state = State()
            for change in some_changes(chance, 12):
                before = dict(state.cells)
                self.assertEqual(state.take(change), state.cells != before)

    def test_joins_in_either_order_and_other_groupings(self):
        chance = random.Random(3)
        for _ in range(200):
            changes = some_changes(chance, 12)
            rows = [chance.sample(changes, chance.randrange(9)) for _ in range(3)]
            one, two, three = [state_of(row) for row in rows]
            self.assertTrue(is_equal(joined(one, two), joined(two, one)))
            self.assertTrue(is_equal(joined(joined(one, two), three), joined(one, joined(two, three))))
            self.assertTrue(is_equal(joined(one, two), state_of(rows[0], rows[1])))
            self.assertTrue(is_equal(joined(one, one), one))
            self.assertTrue(is_equal(joined(one, joined(one, two)), joined(one, two)))

    def test_below_is_where_joining_makes_no_difference(self):
        chance = random.Random(4)
        for _ in range(300):
            changes = some_changes(chance, 6)
            one = state_of(chance.sample(changes, chance.randrange(4)))
            two = state_of(chance.sample(changes, chance.randrange(6)))
            self.assertEqual(is_below(one, two), is_equal(joined(one, two), two))
            self.assertTrue(is_below(one, joined(one, two)))
            self.assertTrue(is_below(two, joined(one, two)))
            self.assertEqual(is_below(one, two) and is_below(two, one), is_equal(one, two))


if __name__ == "__main__":
    unittest.main()
