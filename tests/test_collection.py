"""[26] Collection: what no root of any replica reaches is let go at all of them."""

import copy
import random
import unittest

from graphtwins.collection import collect, garbage, let_go, marks
from graphtwins.errors import NotTogether
from graphtwins.graphs import reachable
from graphtwins.replicas import Replica
from graphtwins.snapshots import exchange_all
from graphtwins.states import is_equal
from graphtwins.values import ROOT

A, B, C, D, E = (1, 0), (1, 1), (2, 0), (2, 1), (3, 0)


def ref(name):
    return ("ref", name)


def picture(replica):
    return copy.deepcopy((
        replica.peer, replica.clock, replica.made, list(replica.state.cells.items()), replica.roots,
        replica.pending, list(replica.messages.items()),
    ))


def changes_of(*fields):
    """Changes that set fields (name, field, value), each with a later clock than the one before."""
    return [((at, 7), name, field, value) for at, (name, field, value) in enumerate(fields, start=1)]


def replicas_with(many, *fields):
    """Replicas that are together, and have these fields by a message of the peer 7."""
    replicas = [Replica(peer) for peer in range(many)]
    for replica in replicas:
        replica.accept(7, 1, changes_of(*fields))
    return replicas


def set_names(replica):
    return sorted({name for name, _ in replica.state.cells})


class MarksCase(unittest.TestCase):
    def test_ascending(self):
        replica, = replicas_with(1, (ROOT, "a", ref(E)), (E, "a", ref(A)), (E, "b", ref(C)), (A, "a", ref(B)))
        self.assertEqual(reachable(replica.state, [ROOT]), [ROOT, E, A, C, B])
        self.assertEqual(marks(replica), [ROOT, A, B, C, E])

    def test_roots_without_fields(self):
        self.assertEqual(marks(Replica(3)), [ROOT])
        replica = Replica(3)
        replica.hold(replica.begin())
        self.assertEqual(marks(replica), [ROOT, (3, 0)])

    def test_several_roots(self):
        replica, = replicas_with(1, (A, "a", ref(B)), (C, "a", ref(D)), (E, "a", ref(D)), (D, "a", 1))
        self.assertEqual(marks(replica), [ROOT])
        replica.hold(E)
        self.assertEqual(marks(replica), [ROOT, D, E])
        replica.hold(A)
        self.assertEqual(marks(replica), [ROOT, A, B, D, E])
        replica.drop(E)
        self.assertEqual(marks(replica), [ROOT, A, B])

    def test_rings(self):
        replica, = replicas_with(1, (ROOT, "a", ref(A)), (A, "a", ref(B)), (B, "a", ref(A)), (C, "a", ref(C)))
        self.assertEqual(marks(replica), [ROOT, A, B])

    def test_cleared_fields_lead_nowhere(self):
        replica, = replicas_with(1, (ROOT, "a", ref(A)), (ROOT, "a", None))
        self.assertEqual(marks(replica), [ROOT])

    def test_pending_changes_count(self):
        replica, = replicas_with(1, (A, "a", 1))
        replica.put(ROOT, "a", ref(A))
        self.assertEqual(marks(replica), [ROOT, A])

    def test_nothing_changes(self):
        replica, = replicas_with(1, (ROOT, "a", ref(A)))
        before = picture(replica)
        marks(replica).clear()
        self.assertEqual(picture(replica), before)


class LetGoCase(unittest.TestCase):
    def setUp(self):
        self.replica, = replicas_with(
            1, (ROOT, "a", ref(A)), (A, "a", ref(B)), (A, "b", 1), (A, "b", None), (B, "a", 2), (C, "a", ref(A)),
        )

    def test_all_fields_of_some_objects(self):
        before = dict(self.replica.state.cells)
        let_go(self.replica, [A, C])
        self.assertEqual(self.replica.state.cells, {
            cell: before[cell] for cell in before if cell[0] in (ROOT, B)
        })
        self.assertIsNone(self.replica.state.stamp(A, "b"))

    def test_nothing_else_changes(self):
        before = picture(self.replica)
        let_go(self.replica, [A, A])
        after = picture(self.replica)
        self.assertEqual(after[:3] + after[4:], before[:3] + before[4:])
        self.assertEqual(self.replica.version(), [0] * 7 + [1])

    def test_none(self):
        before = picture(self.replica)
        let_go(self.replica, [])
        let_go(self.replica, [D, E])
        self.assertEqual(picture(self.replica), before)

    def test_as_if_they_had_never_been_set(self):
        let_go(self.replica, [B])
        self.assertIs(self.replica.state.take(((1, 1), B, "a", 3)), True)
        self.assertEqual(self.replica.state.value(B, "a"), 3)

    def test_the_names_stay_as_they_are(self):
        names = [A, B, A]
        let_go(self.replica, names)
        self.assertEqual(names, [A, B, A])


class GarbageCase(unittest.TestCase):
    def test_nothing(self):
        self.assertEqual(garbage([Replica(0)]), [])
        self.assertEqual(garbage(replicas_with(2, (ROOT, "a", 1), (ROOT, "b", ref(A)), (A, "a", 1))), [])

    def test_a_field_was_set(self):
        self.assertEqual(garbage(replicas_with(2, (D, "a", 1), (A, "a", ref(ROOT)), (C, "a", "x"))), [A, C, D])

    def test_also_a_cleared_one(self):
        self.assertEqual(garbage(replicas_with(2, (A, "a", None), (ROOT, "a", None))), [A])

    def test_objects_that_are_mentioned_only(self):
        replicas = replicas_with(2, (A, "a", ref(B)))
        self.assertEqual(garbage(replicas), [A])
        replicas[0].begin()
        self.assertEqual(garbage(replicas), [A])

    def test_rings_that_no_root_reaches(self):
        replicas = replicas_with(2, (A, "a", ref(B)), (B, "a", ref(A)), (C, "a", ref(C)), (C, "b", ref(ROOT)))
        self.assertEqual(garbage(replicas), [A, B, C])

    def test_reached_from_the_roots_of_just_one_of_them(self):
        for at in range(3):
            replicas = replicas_with(3, (A, "a", ref(B)), (B, "a", 1), (C, "a", ref(B)))
            self.assertEqual(garbage(replicas), [A, B, C])
            replicas[at].hold(A)
            self.assertEqual(garbage(replicas), [C])
            replicas[(at + 1) % 3].hold(C)
            self.assertEqual(garbage(replicas), [])

    def test_set_at_just_one_of_them(self):
        # Here the replicas are not together: garbage is told all the same.
        for at in range(3):
            replicas = [Replica(peer) for peer in range(3)]
            replicas[at].accept(7, 1, changes_of((A, "a", 1), (B, "a", 1), (B, "a", None)))
            self.assertEqual(garbage(replicas), [A, B])

    def test_reached_in_the_state_of_just_one_of_them(self):
        one, other = Replica(1), Replica(2)
        one.accept(7, 1, changes_of((A, "a", 1)))
        other.accept(7, 2, changes_of((ROOT, "a", ref(A))))
        self.assertEqual(garbage([one, other]), [])
        self.assertEqual(garbage([one]), [A])

    def test_nothing_changes(self):
        replicas = replicas_with(2, (A, "a", 1))
        before = [picture(replica) for replica in replicas]
        garbage(replicas).clear()
        self.assertEqual([picture(replica) for replica in replicas], before)


class CollectCase(unittest.TestCase):
    def setUp(self):
        self.fields = [
            (ROOT, "a", ref(A)), (A, "a", 1), (B, "a", ref(A)), (B, "b", None), (C, "a", ref(D)), (D, "a", ref(C)),
            (E, "a", 1),
        ]
        self.replicas = replicas_with(3, *self.fields)

    def test_gone_from_all(self):
        self.replicas[1].hold(E)
        self.assertEqual(collect(self.replicas), [B, C, D])
        for replica in self.replicas:
            self.assertEqual(set_names(replica), [ROOT, A, E])
            self.assertTrue(is_equal(replica.state, self.replicas[0].state))

    def test_graphs_from_the_roots_stay(self):
        self.replicas[1].hold(E)
        self.replicas[2].hold(B)
        before = [replica.graph() for replica in self.replicas]
        collect(self.replicas)
        self.assertEqual([replica.graph() for replica in self.replicas], before)

    def test_again(self):
        self.assertEqual(collect(self.replicas), [B, C, D, E])
        before = [picture(replica) for replica in self.replicas]
        self.assertEqual(collect(self.replicas), [])
        self.assertEqual([picture(replica) for replica in self.replicas], before)

    def test_one_replica(self):
        self.assertEqual(collect(self.replicas[:1]), [B, C, D, E])
        self.assertEqual(set_names(self.replicas[0]), [ROOT, A])
        self.assertEqual(set_names(self.replicas[1]), [ROOT, A, B, C, D, E])

    def test_nothing_else_changes(self):
        before = [picture(replica) for replica in self.replicas]
        collect(self.replicas).clear()
        for replica, old in zip(self.replicas, before):
            new = picture(replica)
            self.assertEqual(new[:3] + new[4:], old[:3] + old[4:])

    def test_messages_that_come_once_more_bring_nothing_back(self):
        octets = self.replicas[0].copy_of(7, 1)
        collect(self.replicas)
        for replica in self.replicas:
            before = picture(replica)
            self.assertIs(replica.receive(octets), False)
            self.assertIs(replica.accept(7, 1, changes_of(*self.fields)), False)
            self.assertEqual(picture(replica), before)
        self.assertEqual(exchange_all(self.replicas), 0)
        self.assertEqual(collect(self.replicas), [])

    def check_not_together(self):
        before = [picture(replica) for replica in self.replicas]
        with self.assertRaises(NotTogether):
            collect(self.replicas)
        self.assertEqual([picture(replica) for replica in self.replicas], before)

    def test_pending_changes_at_one_of_them(self):
        for at in range(3):
            self.replicas = replicas_with(3, *self.fields)
            self.replicas[at].put(ROOT, "b", 1)
            self.check_not_together()

    def test_other_messages_at_one_of_them(self):
        for at in range(3):
            self.replicas = replicas_with(3, *self.fields)
            self.replicas[at].accept(6, 1, [])
            self.check_not_together()

    def test_as_many_messages_but_others(self):
        self.replicas[0].accept(6, 1, [])
        self.replicas[1].accept(6, 2, [])
        self.replicas[2].accept(5, 1, [])
        self.check_not_together()

    def test_own_objects_that_were_let_go_can_be_set_again(self):
        one, other = Replica(1), Replica(2)
        name = one.begin()
        one.put(name, "a", 1)
        one.send()
        exchange_all([one, other])
        self.assertEqual(collect([one, other]), [name])
        one.put(name, "b", 2)
        one.put(ROOT, "a", ref(name))
        one.send()
        exchange_all([one, other])
        for replica in (one, other):
            self.assertEqual(replica.graph(), ([0], [[("a", ("ref", 1))], [("b", 2)]]))
        self.assertEqual(collect([one, other]), [])

    def test_sessions(self):
        chance = random.Random(26)
        for _ in range(60):
            replicas = [Replica(peer) for peer in range(chance.randrange(1, 5))]
            for _ in range(4):
                self.one_session(chance, replicas)

    def one_session(self, chance, replicas):
        for _ in range(12):
            replica = chance.choice(replicas)
            known = [ROOT] + replica.state.names() + [replica.begin()]
            value = chance.choice([None, 1, ref(chance.choice(known)), ref(chance.choice(known))])
            replica.put(chance.choice(known), chance.choice("ab"), value)
            if chance.randrange(4) == 0:
                replica.hold(chance.choice([ROOT] + replica.state.names()))
            if chance.randrange(3) == 0:
                replica.drop(chance.choice(replica.roots))
        for replica in replicas:
            replica.send()
        exchange_all(replicas)
        graphs = [replica.graph() for replica in replicas]
        gone = collect(replicas)
        self.assertEqual(gone, sorted(gone))
        self.assertEqual([replica.graph() for replica in replicas], graphs)
        for replica in replicas:
            self.assertTrue(is_equal(replica.state, replicas[0].state))
            for name in set_names(replica):
                self.assertNotIn(name, gone)
                self.assertTrue(any(name in reachable(other.state, other.roots) for other in replicas))
        self.assertEqual(collect(replicas), [])
        for sender, number in list(replicas[0].messages):
            octets = replicas[0].copy_of(sender, number)
            for replica in replicas:
                before = picture(replica)
                self.assertIs(replica.receive(octets), False)
                self.assertEqual(picture(replica), before)


if __name__ == "__main__":
    unittest.main()
