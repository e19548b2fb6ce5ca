"""[8] [9] [10] Graphs: reached objects, numbers, alikeness."""

import itertools
import random
import unittest

from graphtwins.graphs import are_alike, numbered, reachable
from graphtwins.states import State

ROOT = (0, 0)


def ref(name):
    return ("ref", name)


def state_of(objects):
    """A state in which objects have these fields, set one by one."""
    state = State()
    clock = 0
    for name, fields in objects.items():
        for field, value in fields.items():
            clock += 1
            state.take(((clock, 0), name, field, value))
    return state


def reached_by(objects, roots):
    """The set of the reached names, found anew."""
    reached = set(roots)
    while True:
        further = {
            value[1] for name in reached for value in objects.get(name, {}).values() if isinstance(value, tuple)
        }
        if further <= reached:
            return reached
        reached |= further


def can_be_paired(objects, roots, others, other_roots):
    """Whether there is a pairing as in [10], found by trying all of them."""
    names = sorted(reached_by(objects, roots))
    other_names = sorted(reached_by(others, other_roots))
    if len(names) != len(other_names) or len(roots) != len(other_roots):
        return False

    def plain(fields):
        return {field: value for field, value in fields.items() if value is not None}

    for row in itertools.permutations(other_names):
        pairs = dict(zip(names, row))
        renamed = {
            pairs[name]: {
                field: ref(pairs[value[1]]) if isinstance(value, tuple) else value
                for field, value in plain(objects.get(name, {})).items()
            }
            for name in names
        }
        if renamed == {name: plain(others.get(name, {})) for name in other_names}:
            if [pairs[root] for root in roots] == list(other_roots):
                return True
    return False


# A ring, a shared object, a reference to itself, a cleared reference, an object without fields,
# and one that is not reached. The names do not stand in the order in which they are found.
A, B, C, D, E, LOST = (7, 9), (3, 1), (5, 0), (1, 1), (0, 4), (2, 2)
OBJECTS = {
    LOST: {"a": ref(A)},
    C: {"back": ref(A), "self": ref(C)},
    B: {"x": ref(D), "cut": None, "n": -3},
    A: {"z": ref(B), "a": ref(C), "m": ref(D), "gone": None},
    D: {"t": "text", "e": ref(E), "a": ""},
}


class ReachableCase(unittest.TestCase):
    def test_no_roots(self):
        self.assertEqual(reachable(state_of(OBJECTS), []), [])
        self.assertEqual(reachable(State(), []), [])

    def test_a_root_that_nothing_mentions(self):
        self.assertEqual(reachable(State(), [ROOT]), [ROOT])
        self.assertEqual(reachable(state_of(OBJECTS), [(6, 6)]), [(6, 6)])

    def test_the_order_in_which_objects_are_found(self):
        self.assertEqual(reachable(state_of(OBJECTS), [A]), [A, C, D, B, E])
        self.assertEqual(reachable(state_of(OBJECTS), [B]), [B, D, E])
        self.assertEqual(reachable(state_of(OBJECTS), [E]), [E])
        self.assertEqual(reachable(state_of(OBJECTS), [LOST]), [LOST, A, C, D, B, E])

    def test_roots_come_first_in_their_order(self):
        self.assertEqual(reachable(state_of(OBJECTS), [E, A]), [E, A, C, D, B])
        self.assertEqual(reachable(state_of(OBJECTS), [D, E, B]), [D, E, B])
        self.assertEqual(reachable(state_of(OBJECTS), [B, E, (6, 6)]), [B, E, (6, 6), D])

    def test_one_object_as_several_roots(self):
        self.assertEqual(reachable(state_of(OBJECTS), [B, B, D, B]), [B, D, E])

    def test_in_breadth_not_in_depth(self):
        objects = {ROOT: {"a": ref(A), "b": ref(B)}, A: {"c": ref(C)}, B: {"d": ref(D)}}
        self.assertEqual(reachable(state_of(objects), [ROOT]), [ROOT, A, B, C, D])

    def test_cleared_references_do_not_reach(self):
        state = state_of({ROOT: {"a": ref(A), "b": ref(B)}})
        state.take(((50, 0), ROOT, "a", None))
        self.assertEqual(reachable(state, [ROOT]), [ROOT, B])
        state.take(((51, 0), ROOT, "b", ref(C)))
        self.assertEqual(reachable(state, [ROOT]), [ROOT, C])

    def test_a_long_row(self):
        many = 20000
        objects = {(1, count): {"a": ref((1, count + 1))} for count in range(many)}
        self.assertEqual(reachable(state_of(objects), [(1, 0)]), [(1, count) for count in range(many + 1)])

    def test_nothing_is_changed_and_the_list_is_new(self):
        state, roots = state_of(OBJECTS), [B, E, B]
        cells = dict(state.cells)
        for told in (reachable(state, roots), reachable(State(), roots)):
            told.clear()
        self.assertEqual(roots, [B, E, B])
        self.assertEqual(state.cells, cells)


class NumberedCase(unittest.TestCase):
    def test_no_roots(self):
        self.assertEqual(numbered(state_of(OBJECTS), []), ([], []))

    def test_a_root_that_nothing_mentions(self):
        self.assertEqual(numbered(State(), [ROOT]), ([0], [[]]))

    def test_fields_ascend_and_references_go_to_numbers(self):
        self.assertEqual(numbered(state_of(OBJECTS), [A]), ([0], [
            [("a", ("ref", 1)), ("m", ("ref", 2)), ("z", ("ref", 3))],
            [("back", ("ref", 0)), ("self", ("ref", 1))],
            [("a", ""), ("e", ("ref", 4)), ("t", "text")],
            [("n", -3), ("x", ("ref", 2))],
            [],
        ]))

    def test_fields_ascend_as_texts(self):
        objects = {ROOT: {"b": 1, "ab": 2, "a": 3, "z": 4, "aab": 5, "zz": 6}}
        self.assertEqual(numbered(state_of(objects), [ROOT]), ([0], [
            [("a", 3), ("aab", 5), ("ab", 2), ("b", 1), ("z", 4), ("zz", 6)],
        ]))

    def test_one_object_as_several_roots(self):
        self.assertEqual(numbered(state_of({A: {"a": 1}, B: {"a": ref(A)}}), [B, A, B, E, A]), (
            [0, 1, 0, 2, 1], [[("a", ("ref", 1))], [("a", 1)], []],
        ))

    def test_rings_and_references_to_oneself(self):
        self.assertEqual(numbered(state_of({ROOT: {"a": ref(ROOT)}}), [ROOT]), ([0], [[("a", ("ref", 0))]]))
        objects = {A: {"n": ref(B)}, B: {"n": ref(C)}, C: {"n": ref(A)}}
        self.assertEqual(numbered(state_of(objects), [B]), (
            [0], [[("n", ("ref", 1))], [("n", ("ref", 2))], [("n", ("ref", 0))]],
        ))

    def test_cleared_fields_do_not_show(self):
        self.assertEqual(numbered(state_of({ROOT: {"a": None, "b": 0, "c": None}}), [ROOT]), ([0], [[("b", 0)]]))

    def test_the_kinds_of_the_parts(self):
        graph = numbered(state_of(OBJECTS), [A])
        self.assertIsInstance(graph, tuple)
        self.assertIsInstance(graph[0], list)
        self.assertIsInstance(graph[1], list)
        for fields in graph[1]:
            self.assertIsInstance(fields, list)
            for row in fields:
                self.assertIsInstance(row, tuple)

    def test_nothing_is_changed_and_the_lists_are_new(self):
        state, roots = state_of(OBJECTS), [A, E]
        cells = dict(state.cells)
        before = numbered(state, roots)
        told = numbered(state, roots)
        for part in told[1]:
            part.clear()
        told[0].clear()
        told[1].clear()
        self.assertEqual(numbered(state, roots), before)
        self.assertEqual(roots, [A, E])
        self.assertEqual(state.cells, cells)


class AlikeCase(unittest.TestCase):
    def test_a_state_and_itself(self):
        state = state_of(OBJECTS)
        self.assertIs(are_alike(state, [A, E], state, [A, E]), True)

    def test_other_names(self):
        names = {A: (0, 1), B: (0, 3), C: (0, 2), D: (6, 0), E: A, LOST: (7, 7)}
        others = {
            names[name]: {
                field: ref(names[value[1]]) if isinstance(value, tuple) else value for field, value in fields.items()
            }
            for name, fields in OBJECTS.items()
        }
        self.assertIs(are_alike(state_of(OBJECTS), [A], state_of(others), [(0, 1)]), True)
        self.assertIs(are_alike(state_of(OBJECTS), [E, A], state_of(others), [A, (0, 1)]), True)
        self.assertIs(are_alike(state_of(OBJECTS), [A], state_of(others), [A]), False)

    def test_other_stamps_and_what_is_not_reached_make_no_difference(self):
        one = state_of({A: {"a": 1}})
        other = State()
        other.take(((77, 7), A, "a", 1))
        other.take(((78, 7), A, "b", None))
        other.take(((79, 7), B, "b", ref(A)))
        self.assertIs(are_alike(one, [A], other, [A]), True)

    def test_one_field_changed(self):
        for name, field, value in (
            (A, "a", ref(D)), (A, "z", None), (A, "new", 0), (B, "n", -4), (C, "self", ref(A)),
            (D, "t", "texu"), (D, "t", ""), (D, "e", ref(D)), (E, "a", 1), (B, "cut", ref(B)),
        ):
            other = state_of(OBJECTS)
            other.take(((50, 0), name, field, value))
            self.assertIs(are_alike(state_of(OBJECTS), [A], other, [A]), False, (name, field, value))
            self.assertIs(are_alike(other, [A], state_of(OBJECTS), [A]), False, (name, field, value))

    def test_a_shared_object_is_not_two_equal_ones(self):
        shared = {ROOT: {"a": ref(A), "b": ref(A)}, A: {"n": 1}}
        apart = {ROOT: {"a": ref(A), "b": ref(B)}, A: {"n": 1}, B: {"n": 1}}
        self.assertIs(are_alike(state_of(shared), [ROOT], state_of(apart), [ROOT]), False)

    def test_roots_are_paired_in_their_order(self):
        objects = {A: {"a": 1}, B: {"a": 2}}
        state = state_of(objects)
        self.assertIs(are_alike(state, [A, B], state, [B, A]), False)
        self.assertIs(are_alike(state, [A, A], state, [A]), False)
        self.assertIs(are_alike(state, [A, A], state, [A, A]), True)
        self.assertIs(are_alike(state, [(6, 6), (6, 7)], state, [(6, 7), (6, 6)]), True)
        self.assertIs(are_alike(state, [(6, 6), (6, 7)], state, [(6, 7), (6, 7)]), False)
        self.assertIs(are_alike(state, [], State(), []), True)
        self.assertIs(are_alike(state, [], State(), [ROOT]), False)

    def test_alike_exactly_if_there_is_a_pairing(self):
        chance = random.Random(5)
        names = [(0, 0), (0, 1), (1, 0), (2, 5)]
        alike = 0
        for _ in range(1500):
            drawn = []
            for _ in range(2):
                objects = {}
                for name in names:
                    fields = chance.sample(["a", "b"], chance.randrange(3))
                    values = [None, 1, ref(chance.choice(names)), ref(chance.choice(names))]
                    objects[name] = {field: chance.choice(values) for field in fields}
                drawn.append((objects, [chance.choice(names) for _ in range(chance.randrange(1, 3))]))
            (objects, roots), (others, other_roots) = drawn
            expected = can_be_paired(objects, roots, others, other_roots)
            alike += expected
            self.assertIs(are_alike(state_of(objects), roots, state_of(others), other_roots), expected, drawn)
            mixed = dict(zip(names, chance.sample(names, 4)))
            renamed = {
                mixed[name]: {f: ref(mixed[v[1]]) if isinstance(v, tuple) else v for f, v in fields.items()}
                for name, fields in objects.items()
            }
            new_roots = [mixed[root] for root in roots]
            self.assertIs(are_alike(state_of(objects), roots, state_of(renamed), new_roots), True)
        self.assertGreater(alike, 50)


if __name__ == "__main__":
    unittest.main()
