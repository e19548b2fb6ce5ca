"""[29] Paths, and the cells on which they hang; [30] watchers."""

import copy
import itertools
import random
import unittest

from graphtwins.patches import applied
from graphtwins.states import State
from graphtwins.values import ROOT
from graphtwins.watches import Watcher, cells_of, follow, value_at

A, B, C = (1, 0), (1, 1), (2, 0)


def ref(name):
    return ("ref", name)


def state_of(*fields):
    """A state with these fields (name, field, value), each set with a later clock than the one before."""
    state = State()
    for at, (name, field, value) in enumerate(fields, start=1):
        state.take(((at, 1), name, field, value))
    return state


def changed(state, *fields):
    """A state of its own in which these fields are set later."""
    clock = max([stamp[0] for stamp, _ in state.cells.values()], default=0)
    return applied(state, [
        ((clock + at, 2), name, field, value) for at, (name, field, value) in enumerate(fields, start=1)
    ])


SAMPLE = [
    (ROOT, "a", ref(A)), (ROOT, "n", 7), (ROOT, "t", "x"), (ROOT, "e", ""), (ROOT, "z", 0), (ROOT, "gone", 1),
    (ROOT, "gone", None), (A, "b", ref(B)), (A, "self", ref(A)), (A, "n", -1), (B, "up", ref(ROOT)), (B, "c", ref(C)),
]


class FollowCase(unittest.TestCase):
    def setUp(self):
        self.state = state_of(*SAMPLE)

    def check(self, path, values, value, cells):
        self.assertEqual(follow(self.state, path), values)
        self.assertEqual(value_at(self.state, path), value)
        self.assertEqual(cells_of(self.state, path), cells)

    def test_the_empty_path(self):
        self.check([], [ref(ROOT)], ref(ROOT), [])
        self.state = State()
        self.check([], [ref(ROOT)], ref(ROOT), [])

    def test_references(self):
        self.check(["a"], [ref(ROOT), ref(A)], ref(A), [(ROOT, "a")])
        self.check(["a", "b"], [ref(ROOT), ref(A), ref(B)], ref(B), [(ROOT, "a"), (A, "b")])

    def test_numbers_and_texts(self):
        for field, value in (("n", 7), ("t", "x"), ("e", ""), ("z", 0)):
            self.check([field], [ref(ROOT), value], value, [(ROOT, field)])
        self.check(["a", "n"], [ref(ROOT), ref(A), -1], -1, [(ROOT, "a"), (A, "n")])

    def test_none(self):
        self.check(["gone"], [ref(ROOT), None], None, [(ROOT, "gone")])
        self.check(["never"], [ref(ROOT), None], None, [(ROOT, "never")])
        self.check(["a", "never"], [ref(ROOT), ref(A), None], None, [(ROOT, "a"), (A, "never")])

    def test_objects_without_fields(self):
        self.check(
            ["a", "b", "c", "d"], [ref(ROOT), ref(A), ref(B), ref(C), None], None,
            [(ROOT, "a"), (A, "b"), (B, "c"), (C, "d")],
        )

    def test_paths_that_go_on(self):
        for field, value in (("n", 7), ("t", "x"), ("e", ""), ("z", 0), ("gone", None), ("never", None)):
            for more in (["n"], [field], ["a", "b"]):
                self.check([field] + more, [ref(ROOT), value], None, [(ROOT, field)])
        self.check(["a", "n", "n", "a"], [ref(ROOT), ref(A), -1], None, [(ROOT, "a"), (A, "n")])

    def test_rings(self):
        self.check(
            ["a", "self", "self", "n"], [ref(ROOT), ref(A), ref(A), ref(A), -1], -1,
            [(ROOT, "a"), (A, "self"), (A, "self"), (A, "n")],
        )

    def test_a_cell_that_is_asked_twice_is_told_twice(self):
        round_trip = ["a", "b", "up"]
        self.check(
            round_trip + round_trip, [ref(ROOT), ref(A), ref(B), ref(ROOT), ref(A), ref(B), ref(ROOT)], ref(ROOT),
            [(ROOT, "a"), (A, "b"), (B, "up")] * 2,
        )

    def test_only_the_root_is_where_it_begins(self):
        self.state = state_of((A, "a", 1))
        self.check(["a"], [ref(ROOT), None], None, [(ROOT, "a")])

    def test_nothing_is_changed(self):
        before, path = copy.deepcopy(self.state.cells), ["a", "b"]
        for call in (follow, cells_of):
            call(self.state, path).clear()
        value_at(self.state, path)
        self.assertEqual((self.state.cells, path), (before, ["a", "b"]))

    def test_without_other_values_in_its_cells_it_leads_to_the_same_value(self):
        chance = random.Random(29)
        names, fields = [ROOT, A, B], ["a", "b"]
        paths = [list(path) for many in range(4) for path in itertools.product(fields, repeat=many)]
        for _ in range(200):
            state = random_state(chance, names, fields)
            later = changed(state, *random_fields(chance, names, fields, 2))
            for path in paths:
                cells = cells_of(state, path)
                self.assertEqual(len(cells), len(follow(state, path)) - 1)
                if all(state.value(*cell) == later.value(*cell) for cell in cells):
                    self.assertEqual(value_at(later, path), value_at(state, path))
                    self.assertEqual(cells_of(later, path), cells)

    def test_step_by_step(self):
        chance = random.Random(30)
        names, fields = [ROOT, A, B], ["a", "b"]
        for _ in range(200):
            state = random_state(chance, names, fields)
            path = [chance.choice(fields) for _ in range(chance.randrange(5))]
            values, cells, rest = [ref(ROOT)], [], list(path)
            while rest and isinstance(values[-1], tuple):
                cells.append((values[-1][1], rest[0]))
                values.append(state.value(values[-1][1], rest.pop(0)))
            self.assertEqual(follow(state, path), values)
            self.assertEqual(cells_of(state, path), cells)
            self.assertEqual(value_at(state, path), None if rest else values[-1])


def random_fields(chance, names, fields, many):
    return [
        (chance.choice(names), chance.choice(fields), chance.choice([None, 0, "x"] + [ref(name) for name in names] * 2))
        for _ in range(many)
    ]


def random_state(chance, names, fields):
    return state_of(*random_fields(chance, names, fields, chance.randrange(8)))


class WatchCase(unittest.TestCase):
    def test_the_value(self):
        watcher = Watcher(state_of(*SAMPLE))
        for path, value in (
            ([], ref(ROOT)), (["a"], ref(A)), (["a", "n"], -1), (["t"], "x"), (["n", "n"], None), (["never"], None),
        ):
            self.assertEqual(watcher.watch(path), value)

    def test_the_same_path_twice(self):
        state = state_of(*SAMPLE)
        watcher = Watcher(state)
        self.assertEqual([watcher.watch(["n"]), watcher.watch(["t"]), watcher.watch(["n"])], [7, "x", 7])
        self.assertEqual(watcher.news(changed(state, (ROOT, "n", 8))), [(["n"], 7, 8), (["n"], 7, 8)])

    def test_in_the_state_to_which_it_went_on(self):
        state = state_of(*SAMPLE)
        watcher = Watcher(state)
        watcher.news(changed(state, (ROOT, "n", 8)))
        self.assertEqual(watcher.watch(["n"]), 8)
        self.assertEqual(watcher.news(state), [(["n"], 8, 7)])

    def test_arguments_stay_as_they_are(self):
        state = state_of(*SAMPLE)
        before, path = copy.deepcopy(state.cells), ["n"]
        watcher = Watcher(state)
        watcher.watch(path)
        path.append("a")
        self.assertEqual(watcher.news(changed(state, (ROOT, "n", 8))), [(["n"], 7, 8)])
        watcher.touched([((99, 1), ROOT, "n", 9)])
        self.assertEqual((path, state.cells), (["n", "a"], before))


class NewsCase(unittest.TestCase):
    def setUp(self):
        self.state = state_of(*SAMPLE)
        self.watcher = Watcher(self.state)

    def test_nothing_watched(self):
        self.assertEqual(self.watcher.news(State()), [])

    def test_nothing_new(self):
        for path in ([], ["a"], ["n"], ["n", "n"], ["never"]):
            self.watcher.watch(path)
        self.assertEqual(self.watcher.news(self.state), [])
        self.assertEqual(self.watcher.news(self.state.copy()), [])
        # The same value set anew, and a field on which no path hangs.
        self.assertEqual(self.watcher.news(changed(self.state, (ROOT, "n", 7), (A, "n", 5))), [])

    def test_several_paths_in_the_order_in_which_they_were_watched(self):
        paths = [["t"], ["a", "n"], ["n"], [], ["a"], ["gone"]]
        for path in paths:
            self.watcher.watch(path)
        later = changed(self.state, (ROOT, "n", None), (ROOT, "a", ref(B)), (ROOT, "gone", ref(ROOT)))
        self.assertEqual(self.watcher.news(later), [
            (["a", "n"], -1, None), (["n"], 7, None), (["a"], ref(A), ref(B)), (["gone"], None, ref(ROOT)),
        ])
        self.assertEqual(self.watcher.news(later), [])

    def test_what_was_told_last(self):
        self.watcher.watch(["n"])
        one, two = changed(self.state, (ROOT, "n", 8)), changed(self.state, (ROOT, "n", 9))
        self.assertEqual(self.watcher.news(one), [(["n"], 7, 8)])
        self.assertEqual(self.watcher.news(two), [(["n"], 8, 9)])
        self.assertEqual(self.watcher.news(self.state), [(["n"], 9, 7)])

    def test_there_and_back_between_two_calls(self):
        self.watcher.watch(["n"])
        there = changed(self.state, (ROOT, "n", 8))
        self.assertEqual(self.watcher.news(changed(there, (ROOT, "n", 7))), [])

    def test_there_and_back_by_two_calls(self):
        self.watcher.watch(["n"])
        there = changed(self.state, (ROOT, "n", 8))
        self.assertEqual(self.watcher.news(there), [(["n"], 7, 8)])
        self.assertEqual(self.watcher.news(changed(there, (ROOT, "n", 7))), [(["n"], 8, 7)])

    def test_another_object_with_the_same_value(self):
        self.watcher.watch(["a", "n"])
        self.watcher.watch(["a"])
        later = changed(self.state, (C, "n", -1), (ROOT, "a", ref(C)))
        self.assertEqual(self.watcher.news(later), [(["a"], ref(A), ref(C))])

    def test_a_path_that_begins_and_ends_to_lead_on(self):
        self.watcher.watch(["n", "n"])
        later = changed(self.state, (ROOT, "n", ref(A)))
        self.assertEqual(self.watcher.news(later), [(["n", "n"], None, -1)])
        self.assertEqual(self.watcher.news(self.state), [(["n", "n"], -1, None)])

    def test_a_state_that_changes_itself(self):
        self.watcher.watch(["n"])
        self.state.take(((99, 1), ROOT, "n", 8))
        self.assertEqual(self.watcher.news(self.state), [(["n"], 7, 8)])
        self.assertEqual(self.watcher.news(self.state), [])

    def test_what_is_handed_out_is_new(self):
        self.watcher.watch(["n"])
        self.watcher.watch(["n"])
        told = self.watcher.news(changed(self.state, (ROOT, "n", 8)))
        told[0][0].append("n")
        self.assertEqual(told[1][0], ["n"])
        told.clear()
        self.assertEqual(self.watcher.news(self.state), [(["n"], 8, 7), (["n"], 8, 7)])

    def test_states_stay_as_they_are(self):
        later = changed(self.state, (ROOT, "n", 8))
        before = copy.deepcopy((self.state.cells, later.cells))
        self.watcher.watch(["n"])
        self.watcher.news(later)
        self.assertEqual((self.state.cells, later.cells), before)

    def test_by_definition(self):
        chance = random.Random(31)
        names, fields = [ROOT, A, B], ["a", "b"]
        for _ in range(100):
            state = random_state(chance, names, fields)
            watcher, told = Watcher(state), []
            for _ in range(6):
                path = [chance.choice(fields) for _ in range(chance.randrange(4))]
                self.assertEqual(watcher.watch(path), value_at(state, path))
                told.append((path, value_at(state, path)))
                state = changed(state, *random_fields(chance, names, fields, chance.randrange(3)))
                self.assertEqual(watcher.news(state), [
                    (path, value, value_at(state, path)) for path, value in told if value_at(state, path) != value
                ])
                told = [(path, value_at(state, path)) for path, _ in told]


class TouchedCase(unittest.TestCase):
    def setUp(self):
        self.state = state_of(*SAMPLE)
        self.watcher = Watcher(self.state)
        for path in ([], ["a"], ["a", "n"], ["n", "n"], ["a", "b", "up", "a"], ["never"], ["a"]):
            self.watcher.watch(path)

    def touched(self, *cells):
        return self.watcher.touched([((90 + at, 1), name, field, 5) for at, (name, field) in enumerate(cells)])

    def test_by_changes_of_its_cells(self):
        self.assertEqual(self.touched((ROOT, "a")), [1, 2, 4, 6])
        self.assertEqual(self.touched((A, "n")), [2])
        self.assertEqual(self.touched((ROOT, "n")), [3])
        self.assertEqual(self.touched((B, "up")), [4])
        self.assertEqual(self.touched((ROOT, "never")), [5])

    def test_by_changes_of_other_cells(self):
        self.assertEqual(self.touched((ROOT, "t"), (A, "a"), (B, "n"), (C, "n"), ((7, 7), "a")), [])

    def test_ascending_and_each_once(self):
        self.assertEqual(self.touched((ROOT, "n"), (A, "b"), (ROOT, "a"), (ROOT, "n"), (A, "n")), [1, 2, 3, 4, 6])

    def test_with_no_changes(self):
        self.assertEqual(self.watcher.touched([]), [])
        self.assertEqual(Watcher(self.state).touched([((9, 9), ROOT, "a", 1)]), [])

    def test_also_without_another_value(self):
        self.assertEqual(self.watcher.touched([((90, 1), ROOT, "n", 7)]), [3])
        self.assertEqual(self.watcher.touched([((90, 1), ROOT, "never", None)]), [5])
        # Not even a difference: an earlier change of the cell.
        self.assertEqual(self.watcher.touched([((1, 0), ROOT, "n", 1)]), [3])

    def test_in_the_state_of_the_watcher(self):
        later = changed(self.state, (ROOT, "a", ref(B)), (B, "b", ref(C)))
        self.assertEqual(self.touched((A, "n")), [2])
        self.assertEqual(self.touched((B, "n")), [])
        self.assertEqual(self.touched((C, "up")), [])
        self.watcher.news(later)
        self.assertEqual(self.touched((A, "n")), [])
        self.assertEqual(self.touched((B, "n")), [2])
        self.assertEqual(self.touched((C, "up")), [4])
        self.assertEqual(self.touched((ROOT, "a")), [1, 2, 4, 6])

    def test_nothing_changes(self):
        before, changes = copy.deepcopy(self.state.cells), [((90, 1), ROOT, "n", 9)]
        self.watcher.touched(changes).clear()
        self.assertEqual((self.state.cells, changes), (before, [((90, 1), ROOT, "n", 9)]))
        self.assertEqual(self.watcher.news(self.state), [])

    def test_paths_that_are_not_touched_bring_no_news(self):
        chance = random.Random(32)
        names, fields = [ROOT, A, B], ["a", "b"]
        for _ in range(100):
            state = random_state(chance, names, fields)
            watcher = Watcher(state)
            paths = [list(path) for many in range(4) for path in itertools.product(fields, repeat=many)]
            for path in paths:
                watcher.watch(path)
            changes = [((50, 2), name, field, value) for name, field, value in random_fields(chance, names, fields, 1)]
            touched = watcher.touched(changes)
            self.assertEqual(touched, [
                at for at, path in enumerate(paths) if any(change[1:3] in cells_of(state, path) for change in changes)
            ])
            for path, _, _ in watcher.news(applied(state, changes)):
                self.assertIn(paths.index(path), touched)


if __name__ == "__main__":
    unittest.main()
