"""[23] Lazy peers: a state of which a part is here."""

import copy
import random
import unittest

from graphtwins.errors import NotHere
from graphtwins.graphs import numbered, reachable
from graphtwins.lazy import LazyPeer, fetch_all, is_whole, merged, part_of
from graphtwins.states import State, is_equal, joined
from graphtwins.values import ROOT

A, B, C, D, E = (1, 0), (1, 1), (2, 0), (2, 1), (3, 0)


def ref(name):
    return ("ref", name)


def state_of(*changes):
    state = State()
    for change in changes:
        state.take(change)
    return state


def linked(*links):
    """A state with links (name, field, target), each with a later clock than the one before."""
    return state_of(*[((at, 1), name, field, ref(target)) for at, (name, field, target) in enumerate(links, start=1)])


def lazy_with(state, *names):
    lazy = LazyPeer()
    lazy.fetch(state, list(names))
    return lazy


def picture(lazy):
    return (list(lazy.state.cells.items()), list(lazy.here))


def random_change(chance, clock, names):
    value = chance.choice([None, 1, 7, "x", ref(chance.choice(names)), ref(chance.choice(names))])
    return ((clock, chance.randrange(8)), chance.choice(names), chance.choice("abc"), value)


def random_changes(chance, names, many):
    return [random_change(chance, clock, names) for clock in chance.sample(range(1, 1000), many)]


class PartCase(unittest.TestCase):
    def setUp(self):
        self.changes = [
            ((1, 2), A, "b", 7), ((2, 1), ROOT, "a", ref(A)), ((3, 0), B, "a", 5), ((3, 1), A, "a", None),
            ((5, 1), B, "c", ref(A)), ((9, 1), ROOT, "b", "x"),
        ]
        self.state = state_of(*reversed(self.changes))

    def test_some_objects(self):
        one, two, three, four, five, six = self.changes
        for names, part in (
            ([A], [one, four]), ([B], [three, five]), ([ROOT], [two, six]), ([B, A], [one, three, four, five]),
            ([A, B], [one, three, four, five]), ([ROOT, A, B], self.changes),
        ):
            self.assertEqual(part_of(self.state, names), part)

    def test_cleared_fields_belong_to_it(self):
        self.assertEqual(part_of(state_of(((4, 1), C, "a", None)), [C]), [((4, 1), C, "a", None)])

    def test_of_none(self):
        self.assertEqual(part_of(self.state, []), [])
        self.assertEqual(part_of(State(), [ROOT, A]), [])

    def test_objects_without_fields(self):
        self.assertEqual(part_of(self.state, [C, (7, 4294967295)]), [])

    def test_objects_named_twice(self):
        self.assertEqual(part_of(self.state, [A, A, B, A]), part_of(self.state, [A, B]))

    def test_nothing_is_changed(self):
        before = copy.deepcopy(self.state.cells)
        names = [A, B, A]
        part_of(self.state, names).clear()
        self.assertEqual(self.state.cells, before)
        self.assertEqual(names, [A, B, A])


class NewCase(unittest.TestCase):
    def test_nothing_is_here(self):
        lazy = LazyPeer()
        self.assertIsInstance(lazy.state, State)
        self.assertEqual((lazy.state.cells, lazy.here, lazy.stubs()), ({}, [], []))
        self.assertIs(lazy.is_here(ROOT), False)

    def test_peers_share_nothing(self):
        one, other = LazyPeer(), LazyPeer()
        one.fetch(state_of(((1, 1), ROOT, "a", 1)), [ROOT])
        self.assertEqual(picture(other), ([], []))


class TakeInCase(unittest.TestCase):
    def test_how_many_made_a_difference(self):
        lazy = LazyPeer()
        changes = [((2, 1), A, "a", 1), ((1, 1), A, "a", 2), ((3, 1), A, "a", 2), ((1, 2), A, "b", None)]
        self.assertEqual(lazy.take_in(changes), 3)
        self.assertTrue(is_equal(lazy.state, state_of(*changes)))

    def test_a_second_time(self):
        lazy = LazyPeer()
        changes = [((2, 1), A, "a", 1), ((1, 2), A, "b", None)]
        self.assertEqual(lazy.take_in(changes + changes), 2)
        self.assertEqual(lazy.take_in(changes), 0)
        self.assertEqual(lazy.take_in([]), 0)

    def test_objects_do_not_come_here_by_it(self):
        lazy = lazy_with(State(), A)
        self.assertEqual(lazy.take_in([((1, 1), B, "a", 1), ((2, 1), A, "a", 2)]), 2)
        self.assertEqual(lazy.here, [A])
        self.assertEqual(lazy.value(A, "a"), 2)
        self.assertEqual(lazy.state.value(B, "a"), 1)

    def test_what_is_handed_in_stays_as_it_is(self):
        changes = [((2, 1), A, "a", 1), ((1, 1), A, "a", 2)]
        before = copy.deepcopy(changes)
        LazyPeer().take_in(changes)
        self.assertEqual(changes, before)


class FetchCase(unittest.TestCase):
    def setUp(self):
        self.state = state_of(
            ((1, 1), ROOT, "a", ref(A)), ((2, 1), A, "a", 5), ((3, 1), A, "b", None), ((4, 1), B, "a", ref(C)),
        )

    def test_what_comes(self):
        lazy = LazyPeer()
        self.assertEqual(lazy.fetch(self.state, [A]), [A])
        self.assertEqual(lazy.here, [A])
        self.assertEqual(lazy.state.cells, {(A, "a"): ((2, 1), 5), (A, "b"): ((3, 1), None)})

    def test_in_order(self):
        lazy = LazyPeer()
        self.assertEqual(lazy.fetch(self.state, [B, ROOT]), [B, ROOT])
        self.assertEqual(lazy.fetch(self.state, [E, A, D]), [E, A, D])
        self.assertEqual(lazy.here, [B, ROOT, E, A, D])

    def test_names_named_twice(self):
        lazy = LazyPeer()
        self.assertEqual(lazy.fetch(self.state, [B, A, B, A, A]), [B, A])
        self.assertEqual(lazy.here, [B, A])

    def test_of_none(self):
        lazy = LazyPeer()
        self.assertEqual(lazy.fetch(self.state, []), [])
        self.assertEqual(picture(lazy), ([], []))

    def test_objects_without_fields(self):
        lazy = LazyPeer()
        self.assertEqual(lazy.fetch(self.state, [C]), [C])
        self.assertEqual(lazy.fields(C), {})
        self.assertEqual(lazy.fetch(State(), [D]), [D])
        self.assertEqual(lazy.here, [C, D])

    def test_what_is_here_gets_the_changes_all_the_same(self):
        lazy = lazy_with(self.state, A)
        later = joined(self.state, state_of(((8, 1), A, "a", 6), ((9, 1), B, "a", 7)))
        self.assertEqual(lazy.fetch(later, [A, E]), [E])
        self.assertEqual(lazy.here, [A, E])
        self.assertEqual(lazy.value(A, "a"), 6)
        self.assertIsNone(lazy.state.stamp(B, "a"))

    def test_later_values_of_its_own_stay(self):
        lazy = LazyPeer()
        lazy.take_in([((9, 9), A, "a", 7), ((1, 1), A, "b", 8)])
        lazy.fetch(self.state, [A])
        self.assertEqual(lazy.fields(A), {"a": 7})

    def test_what_is_handed_in_stays_as_it_is(self):
        before, names = copy.deepcopy(self.state.cells), [A, B, A]
        lazy = LazyPeer()
        lazy.fetch(self.state, names).clear()
        self.assertEqual((self.state.cells, names, lazy.here), (before, [A, B, A], [A, B]))
        lazy.take_in([((9, 1), A, "a", 1)])
        self.assertEqual(self.state.cells, before)

    def test_from_its_own_state_and_its_own_row(self):
        lazy = lazy_with(self.state, A, B)
        before = copy.deepcopy(lazy.state.cells)
        self.assertEqual(lazy.fetch(lazy.state, lazy.here), [])
        self.assertEqual(lazy.fetch(lazy.state, [C]), [C])
        self.assertEqual((lazy.state.cells, lazy.here), (before, [A, B, C]))


class ValuesCase(unittest.TestCase):
    def setUp(self):
        self.lazy = LazyPeer()
        self.lazy.take_in([
            ((1, 1), A, "b", 7), ((2, 1), A, "a", ref(B)), ((3, 1), A, "c", None), ((4, 1), B, "a", 5),
        ])
        self.lazy.fetch(State(), [A, D])

    def test_of_objects_here(self):
        self.assertEqual(self.lazy.value(A, "a"), ref(B))
        self.assertEqual(self.lazy.value(A, "b"), 7)
        self.assertIsNone(self.lazy.value(A, "c"))
        self.assertIsNone(self.lazy.value(A, "never"))
        self.assertIsNone(self.lazy.value(D, "a"))
        self.assertEqual(list(self.lazy.fields(A).items()), [("a", ref(B)), ("b", 7)])
        self.assertEqual(self.lazy.fields(D), {})

    def test_is_here(self):
        self.assertIs(self.lazy.is_here(A), True)
        self.assertIs(self.lazy.is_here(D), True)
        self.assertIs(self.lazy.is_here(B), False)
        self.assertIs(self.lazy.is_here(ROOT), False)

    def test_of_others(self):
        # B is a stub with fields in the state; C and the root are not even mentioned.
        before = copy.deepcopy(picture(self.lazy))
        for name in (B, C, ROOT):
            with self.assertRaises(NotHere) as caught:
                self.lazy.value(name, "a")
            self.assertEqual(caught.exception.name, name)
            with self.assertRaises(NotHere) as caught:
                self.lazy.fields(name)
            self.assertEqual(caught.exception.name, name)
        self.assertEqual(picture(self.lazy), before)

    def test_what_is_handed_out_is_new(self):
        self.lazy.fields(A).clear()
        self.assertEqual(self.lazy.fields(A), {"a": ref(B), "b": 7})


class StubsCase(unittest.TestCase):
    def test_in_the_order_in_which_they_are_met(self):
        state = linked((ROOT, "c", A), (ROOT, "b", B), (E, "a", C), (E, "z", D))
        self.assertEqual(lazy_with(state, ROOT, E).stubs(), [B, A, C, D])
        self.assertEqual(lazy_with(state, E, ROOT).stubs(), [C, D, B, A])

    def test_the_order_is_that_in_which_objects_came(self):
        state = linked((A, "a", B), (C, "a", D))
        lazy = lazy_with(state, C)
        lazy.fetch(state, [A])
        self.assertEqual(lazy.stubs(), [D, B])

    def test_each_once(self):
        state = linked((A, "a", C), (A, "b", C), (A, "c", B), (D, "a", C), (D, "b", E))
        self.assertEqual(lazy_with(state, A, D).stubs(), [C, B, E])

    def test_none_that_is_here(self):
        state = linked((A, "a", A), (A, "b", B), (B, "a", A), (B, "b", C))
        self.assertEqual(lazy_with(state, A, B).stubs(), [C])
        self.assertEqual(lazy_with(state, A, B, C).stubs(), [])

    def test_fields_of_objects_that_are_not_here_do_not_count(self):
        lazy = lazy_with(linked((A, "a", B)), A)
        lazy.take_in([((9, 1), B, "a", ref(C)), ((9, 2), D, "a", ref(E))])
        self.assertEqual(lazy.stubs(), [B])

    def test_cleared_fields_and_other_values_do_not_count(self):
        lazy = lazy_with(linked((A, "a", B), (A, "b", C)), A)
        lazy.take_in([((9, 1), A, "a", None), ((9, 2), A, "b", "ref")])
        self.assertEqual(lazy.stubs(), [])

    def test_what_is_handed_out_is_new(self):
        lazy = lazy_with(linked((A, "a", B)), A)
        lazy.stubs().clear()
        self.assertEqual((lazy.stubs(), lazy.here), ([B], [A]))


class ForgetCase(unittest.TestCase):
    def test_an_object_here(self):
        lazy = lazy_with(linked((A, "a", B), (B, "a", C)), A, B, C)
        self.assertIs(lazy.forget(B), True)
        self.assertEqual(lazy.here, [A, C])
        self.assertIs(lazy.forget(B), False)
        self.assertEqual(lazy.here, [A, C])

    def test_its_fields_stay_in_the_state(self):
        lazy = lazy_with(linked((A, "a", B), (B, "a", C)), A, B)
        before = copy.deepcopy(lazy.state.cells)
        lazy.forget(B)
        self.assertEqual(lazy.state.cells, before)
        with self.assertRaises(NotHere):
            lazy.value(B, "a")
        self.assertEqual(lazy.fetch(State(), [B]), [B])
        self.assertEqual(lazy.value(B, "a"), ref(C))

    def test_it_is_a_stub_again(self):
        lazy = lazy_with(linked((A, "a", B), (B, "a", C)), A, B)
        lazy.forget(B)
        self.assertEqual(lazy.stubs(), [B])

    def test_it_is_no_stub_without_a_field_that_refers_to_it(self):
        lazy = lazy_with(linked((A, "a", B), (B, "a", C)), A, B)
        lazy.forget(A)
        self.assertEqual(lazy.stubs(), [C])

    def test_others(self):
        lazy = lazy_with(linked((A, "a", B)), A)
        for name in (B, ROOT, E):
            self.assertIs(lazy.forget(name), False)
        self.assertEqual(lazy.here, [A])


def fetch_by_rounds(lazy, state, roots, most):
    """What [23] says, round by round: first the roots alone, then the stubs, with such roots ahead of them."""
    fetched = 0
    wanted = list(roots)
    while fetched < most:
        for name in wanted:
            if fetched < most and not lazy.is_here(name):
                lazy.fetch(state, [name])
                fetched += 1
        wanted = [name for name in roots if not lazy.is_here(name)] + lazy.stubs()
        if not wanted:
            break
    return fetched


class FetchAllCase(unittest.TestCase):
    def setUp(self):
        self.state = linked(
            (ROOT, "b", A), (ROOT, "a", B), (A, "a", C), (B, "a", D), (D, "a", ROOT), (D, "b", E), (C, "a", C),
        )
        self.order = [ROOT, B, A, D, C, E]

    def test_without_objects_here(self):
        lazy = LazyPeer()
        self.assertEqual(fetch_all(lazy, self.state, [ROOT], 100), 6)
        self.assertEqual(lazy.here, self.order)
        self.assertTrue(is_equal(lazy.state, self.state))
        self.assertEqual(numbered(lazy.state, [ROOT]), numbered(self.state, [ROOT]))

    def test_every_bound(self):
        for most in range(9):
            lazy = LazyPeer()
            self.assertEqual(fetch_all(lazy, self.state, [ROOT], most), min(most, 6))
            self.assertEqual(lazy.here, self.order[:most])
            self.assertTrue(is_equal(lazy.state, state_of(*part_of(self.state, self.order[:most]))))

    def test_piece_by_piece(self):
        lazy = LazyPeer()
        told = [fetch_all(lazy, self.state, [ROOT], most) for most in (0, 1, 2, 0, 2, 4, 1)]
        self.assertEqual(told, [0, 1, 2, 0, 2, 1, 0])
        self.assertEqual(sorted(lazy.here), sorted(self.order))

    def test_roots_in_their_order(self):
        lazy = LazyPeer()
        self.assertEqual(fetch_all(lazy, self.state, [C, B], 100), 6)
        self.assertEqual(lazy.here, [C, B, D, ROOT, E, A])

    def test_roots_that_are_here_already(self):
        lazy = lazy_with(self.state, ROOT)
        self.assertEqual(fetch_all(lazy, self.state, [ROOT], 2), 2)
        self.assertEqual(lazy.here, [ROOT, B, A])

    def test_roots_ahead_of_the_stubs(self):
        # The object here has the stub D. The root is fetched ahead of it, its stubs behind it.
        lazy = lazy_with(self.state, B)
        self.assertEqual(fetch_all(lazy, self.state, [A, C], 1), 1)
        self.assertEqual(lazy.here, [B, A])
        self.assertEqual(fetch_all(lazy, self.state, [A, C], 2), 2)
        self.assertEqual(lazy.here, [B, A, C, D])
        lazy = lazy_with(self.state, B)
        self.assertEqual(fetch_all(lazy, self.state, [A], 100), 5)
        self.assertEqual(lazy.here, [B, A, D, C, ROOT, E])

    def test_stubs_of_objects_here_that_no_root_reaches(self):
        state = linked((A, "a", B), (ROOT, "a", C))
        lazy = lazy_with(state, A)
        self.assertEqual(fetch_all(lazy, state, [ROOT], 100), 3)
        self.assertEqual(lazy.here, [A, ROOT, B, C])

    def test_no_roots(self):
        lazy = LazyPeer()
        self.assertEqual(fetch_all(lazy, self.state, [], 100), 0)
        self.assertEqual(picture(lazy), ([], []))
        lazy = lazy_with(self.state, C, A)
        self.assertEqual(fetch_all(lazy, self.state, [], 100), 0)
        lazy = lazy_with(self.state, B)
        self.assertEqual(fetch_all(lazy, self.state, [], 100), 5)

    def test_a_root_given_twice(self):
        lazy = LazyPeer()
        self.assertEqual(fetch_all(lazy, self.state, [A, A, C, A], 2), 2)
        self.assertEqual(lazy.here, [A, C])

    def test_roots_without_fields(self):
        lazy = LazyPeer()
        self.assertEqual(fetch_all(lazy, self.state, [E, (7, 7)], 100), 2)
        self.assertEqual(lazy.here, [E, (7, 7)])

    def test_rings(self):
        ring = linked((A, "a", B), (B, "a", C), (C, "a", A), (A, "b", A))
        lazy = LazyPeer()
        self.assertEqual(fetch_all(lazy, ring, [B], 100), 3)
        self.assertEqual(lazy.here, [B, C, A])
        self.assertEqual(lazy.stubs(), [])

    def test_fetching_again_fetches_nothing(self):
        lazy = LazyPeer()
        fetch_all(lazy, self.state, [ROOT], 100)
        before = copy.deepcopy(picture(lazy))
        self.assertEqual(fetch_all(lazy, self.state, [ROOT], 100), 0)
        self.assertEqual(picture(lazy), before)

    def test_objects_here_are_not_fetched_again(self):
        lazy = lazy_with(self.state, ROOT)
        later = joined(self.state, state_of(((50, 1), ROOT, "a", 1), ((51, 1), B, "b", 2)))
        self.assertEqual(fetch_all(lazy, later, [ROOT], 100), 5)
        self.assertEqual(lazy.value(ROOT, "a"), ref(B))
        self.assertEqual(lazy.value(B, "b"), 2)

    def test_stubs_by_its_own_later_changes(self):
        lazy = LazyPeer()
        lazy.take_in([((90, 1), B, "a", ref(C)), ((91, 1), A, "a", None)])
        self.assertEqual(fetch_all(lazy, self.state, [ROOT], 100), 4)
        self.assertEqual(lazy.here, [ROOT, B, A, C])

    def test_forgotten_objects_are_fetched_again(self):
        lazy = LazyPeer()
        fetch_all(lazy, self.state, [ROOT], 100)
        lazy.forget(A)
        lazy.forget(C)
        self.assertEqual(fetch_all(lazy, self.state, [ROOT], 100), 2)
        self.assertEqual(lazy.here, [ROOT, B, D, E, A, C])

    def test_what_is_handed_in_stays_as_it_is(self):
        before, roots = copy.deepcopy(self.state.cells), [ROOT, A, ROOT]
        fetch_all(LazyPeer(), self.state, roots, 100)
        self.assertEqual((self.state.cells, roots), (before, [ROOT, A, ROOT]))

    def test_a_long_row(self):
        names = [(1, count) for count in range(3000)]
        state = linked(*[(one, "a", other) for one, other in zip(names, names[1:])])
        lazy = LazyPeer()
        self.assertEqual(fetch_all(lazy, state, names[:1], 10000), 3000)
        self.assertEqual(lazy.here, names)

    def test_against_rounds(self):
        chance = random.Random(23)
        names = [ROOT, A, B, C, D, E, (4, 0), (4, 1)]
        for _ in range(600):
            state = state_of(*random_changes(chance, names, chance.randrange(16)))
            lazy = LazyPeer()
            lazy.take_in(random_changes(chance, names, chance.randrange(5)))
            if chance.randrange(2):
                # From a state that has changed since: what is here already is not fetched again.
                before = state_of(*chance.sample(state.changes(), len(state.cells) // 2))
                lazy.fetch(chance.choice([state, before]), chance.sample(names, chance.randrange(6)))
            if chance.randrange(2):
                lazy.take_in(random_changes(chance, names, chance.randrange(3)))
            roots = [chance.choice(names) for _ in range(chance.randrange(4))]
            most = chance.choice([0, 1, 2, 3, 4, 5, 100])
            other = copy.deepcopy(lazy)
            self.assertEqual(fetch_all(lazy, state, roots, most), fetch_by_rounds(other, state, roots, most))
            self.assertEqual(lazy.here, other.here)
            self.assertTrue(is_equal(lazy.state, other.state))

    def test_the_graph_is_that_of_the_state(self):
        chance = random.Random(230)
        names = [ROOT, A, B, C, D, E, (4, 0), (4, 1)]
        for _ in range(300):
            state = state_of(*random_changes(chance, names, chance.randrange(20)))
            roots = [chance.choice(names) for _ in range(chance.randrange(4))]
            lazy = lazy_with(state, *chance.sample(names, chance.randrange(3)))
            for _ in range(chance.randrange(3)):
                fetch_all(lazy, state, [chance.choice(names)], chance.randrange(3))
            fetch_all(lazy, state, roots, 100)
            self.assertEqual(numbered(lazy.state, roots), numbered(state, roots))
            self.assertEqual(lazy.stubs(), [])
            self.assertIs(is_whole(lazy, roots), True)
            self.assertEqual(fetch_all(lazy, state, roots, 100), 0)

    def test_fetched_objects_that_got_all_changes_since(self):
        chance = random.Random(2300)
        names = [ROOT, A, B, C]
        for _ in range(200):
            changes = random_changes(chance, names, 12)
            state, lazy = State(), LazyPeer()
            fetched = {}
            for change in changes:
                if chance.randrange(3) == 0:
                    name = chance.choice(names)
                    lazy.fetch(state, [name])
                    fetched[name] = True
                state.take(change)
                lazy.take_in([change] if change[1] in fetched or chance.randrange(2) else [])
            for name in fetched:
                self.assertEqual(lazy.fields(name), state.fields(name))


class WholeCase(unittest.TestCase):
    def setUp(self):
        self.state = linked((ROOT, "a", A), (A, "a", B), (B, "a", A))

    def test_before_within_and_behind_fetching_all(self):
        lazy = LazyPeer()
        self.assertIs(is_whole(lazy, [ROOT]), False)
        told = []
        for _ in range(4):
            fetch_all(lazy, self.state, [ROOT], 1)
            told.append(is_whole(lazy, [ROOT]))
        self.assertEqual(told, [False, False, True, True])

    def test_behind_forgetting(self):
        lazy = LazyPeer()
        fetch_all(lazy, self.state, [ROOT], 100)
        lazy.forget(B)
        self.assertIs(is_whole(lazy, [ROOT]), False)
        self.assertIs(is_whole(lazy, [A]), False)
        lazy.fetch(self.state, [B])
        lazy.forget(ROOT)
        self.assertIs(is_whole(lazy, [ROOT]), False)
        self.assertIs(is_whole(lazy, [A]), True)
        self.assertIs(is_whole(lazy, [A, ROOT]), False)

    def test_no_roots(self):
        self.assertIs(is_whole(LazyPeer(), []), True)

    def test_what_the_state_reaches_by_objects_that_are_not_here(self):
        lazy = lazy_with(self.state, ROOT, A)
        lazy.take_in([((9, 1), B, "a", ref(C)), ((10, 1), A, "a", None)])
        self.assertIs(is_whole(lazy, [ROOT]), True)
        lazy.take_in([((11, 1), ROOT, "b", ref(B))])
        self.assertIs(is_whole(lazy, [ROOT]), False)
        lazy.fetch(State(), [B])
        self.assertIs(is_whole(lazy, [ROOT]), False)
        lazy.fetch(State(), [C])
        self.assertIs(is_whole(lazy, [ROOT]), True)

    def test_by_definition(self):
        chance = random.Random(5)
        names = [ROOT, A, B, C]
        for _ in range(200):
            lazy = lazy_with(state_of(*random_changes(chance, names, 8)), *chance.sample(names, 3))
            roots = chance.sample(names, chance.randrange(3))
            self.assertIs(is_whole(lazy, roots), all(name in lazy.here for name in reachable(lazy.state, roots)))


class MergedCase(unittest.TestCase):
    def test_the_join_and_the_objects_of_both(self):
        one = lazy_with(state_of(((1, 1), A, "a", 1), ((5, 1), B, "a", 2)), B, A)
        other = lazy_with(state_of(((2, 2), A, "a", 3), ((4, 2), B, "a", 4), ((1, 2), C, "b", None)), C, D, A, B)
        both = merged(one, other)
        self.assertIsInstance(both, LazyPeer)
        self.assertEqual(both.here, [B, A, C, D])
        self.assertEqual(both.state.cells, {
            (A, "a"): ((2, 2), 3), (B, "a"): ((5, 1), 2), (C, "b"): ((1, 2), None),
        })
        self.assertEqual(merged(other, one).here, [C, D, A, B])

    def test_with_changes_of_objects_that_are_not_here(self):
        one, other = LazyPeer(), LazyPeer()
        one.take_in([((1, 1), A, "a", ref(B))])
        other.fetch(State(), [A])
        both = merged(one, other)
        self.assertEqual(both.fields(A), {"a": ref(B)})
        self.assertEqual(both.stubs(), [B])

    def test_both_stay_as_they_were(self):
        one = lazy_with(state_of(((1, 1), A, "a", 1)), A)
        other = lazy_with(state_of(((2, 2), A, "a", 3)), C, A)
        before = copy.deepcopy((picture(one), picture(other)))
        both = merged(one, other)
        both.fetch(state_of(((9, 1), A, "a", 9)), [A, E])
        both.forget(A)
        both.forget(C)
        self.assertEqual((picture(one), picture(other)), before)

    def test_with_an_empty_one_and_with_itself(self):
        one = lazy_with(state_of(((1, 1), A, "a", 1)), A, B)
        for both in (merged(one, LazyPeer()), merged(LazyPeer(), one), merged(one, one)):
            self.assertEqual(both.here, [A, B])
            self.assertTrue(is_equal(both.state, one.state))
            self.assertIsNot(both.state, one.state)


if __name__ == "__main__":
    unittest.main()
