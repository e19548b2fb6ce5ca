"""[24] Cuts, snapshots and versions of several replicas; [25] replicas that are together."""

import copy
import itertools
import random
import unittest

from graphtwins.errors import NoSuchMessage
from graphtwins.octets import graph_octets, read_graph
from graphtwins.replicas import Replica
from graphtwins.snapshots import (
    are_together, common_version, exchange_all, known_version, snapshot, state_of_cut,
)
from graphtwins.states import State, is_below, is_equal
from graphtwins.values import ROOT

NAMES = [ROOT, (1, 0), (1, 1), (2, 0)]


def change_of(sender, number):
    return ((number % 1000 + 1, sender), ROOT, "abcdefgh"[sender], number % 1000)


def replica_with(peer, *messages):
    """A replica that got these messages (sender, number), each with a change of its own."""
    replica = Replica(peer)
    for sender, number in messages:
        replica.accept(sender, number, [change_of(sender, number)])
    return replica


def picture(replica):
    return copy.deepcopy((
        replica.peer, replica.clock, replica.made, list(replica.state.cells.items()), replica.roots,
        replica.pending, list(replica.messages.items()),
    ))


def version(**numbers):
    """A version: p3=5 tells the number of the peer 3."""
    return [numbers.get("p%d" % peer, 0) for peer in range(8)]


def some_messages():
    """Messages of three peers with changes for the same fields."""
    return [
        (0, 1, [((1, 0), ROOT, "a", ("ref", (1, 0))), ((2, 0), (1, 0), "a", 1)]),
        (0, 2, [((6, 0), (1, 0), "a", None)]),
        (1, 1, [((2, 1), (1, 0), "a", 3), ((3, 1), (1, 0), "b", "x")]),
        (1, 2, [((4, 1), ROOT, "b", ("ref", (1, 0)))]),
        (1, 3, [((9, 1), ROOT, "a", None)]),
        (7, 1, [((5, 7), ROOT, "a", ("ref", ROOT))]),
    ]


def replica_of(peer, messages):
    replica = Replica(peer)
    for sender, number, changes in messages:
        replica.accept(sender, number, changes)
    return replica


class CutCase(unittest.TestCase):
    def setUp(self):
        self.replica = replica_of(3, some_messages())

    def state_by_definition(self, cut):
        state = State()
        for sender, number, changes in some_messages():
            if number <= cut[sender]:
                for change in changes:
                    state.take(change)
        return state

    def test_an_empty_cut(self):
        self.assertEqual(state_of_cut(self.replica, version()).cells, {})
        self.assertEqual(state_of_cut(Replica(0), version()).cells, {})

    def test_every_cut(self):
        for zero, one, seven in itertools.product(range(3), range(4), range(2)):
            cut = version(p0=zero, p1=one, p7=seven)
            state = state_of_cut(self.replica, cut)
            self.assertTrue(is_equal(state, self.state_by_definition(cut)))
            self.assertTrue(is_below(state, self.replica.state))

    def test_all_messages(self):
        self.assertTrue(is_equal(state_of_cut(self.replica, self.replica.version()), self.replica.state))

    def test_pending_changes_and_other_messages_do_not_belong_to_it(self):
        self.replica.put(ROOT, "c", 1)
        self.replica.accept(1, 5, [((20, 1), ROOT, "c", 2)])
        self.replica.accept(1, 0, [((21, 1), ROOT, "c", 2)])
        cut = version(p0=2, p1=3, p7=1)
        self.assertTrue(is_equal(state_of_cut(self.replica, cut), self.state_by_definition(cut)))

    def test_own_messages_belong_to_it(self):
        change = self.replica.put(ROOT, "c", 1)
        self.replica.send()
        self.assertEqual(state_of_cut(self.replica, version(p3=1)).changes(), [change])

    def test_a_state_of_its_own(self):
        before = picture(self.replica)
        cut = version(p0=2, p1=3, p7=1)
        state_of_cut(self.replica, cut).take(((50, 1), ROOT, "a", 1))
        self.assertEqual(picture(self.replica), before)
        self.assertEqual(cut, version(p0=2, p1=3, p7=1))

    def test_what_was_let_go_belongs_to_it(self):
        # The cut is made by messages, and these stay.
        del self.replica.state.cells[((1, 0), "b")]
        cut = version(p0=2, p1=3, p7=1)
        self.assertTrue(is_equal(state_of_cut(self.replica, cut), self.state_by_definition(cut)))

    def test_no_such_message(self):
        self.replica.accept(1, 5, [])
        self.replica.accept(4, 2, [])
        self.replica.accept(5, 0, [])
        before = picture(self.replica)
        for cut, sender, number in (
            (version(p0=3), 0, 3), (version(p0=2, p1=4), 1, 4), (version(p1=5), 1, 4), (version(p1=6), 1, 4),
            (version(p4=1), 4, 1), (version(p4=2), 4, 1), (version(p5=1), 5, 1), (version(p3=7), 3, 1),
            (version(p7=4294967295), 7, 2), (version(p2=1, p1=9), 1, 4), (version(p7=2, p6=1), 6, 1),
        ):
            for call in (lambda: state_of_cut(self.replica, cut), lambda: snapshot(self.replica, cut, [ROOT])):
                with self.assertRaises(NoSuchMessage) as caught:
                    call()
                self.assertEqual((caught.exception.sender, caught.exception.number), (sender, number))
                self.assertEqual(picture(self.replica), before)


class SnapshotCase(unittest.TestCase):
    def test_the_octets(self):
        replica = replica_of(3, some_messages())
        self.assertEqual(snapshot(replica, version(), [ROOT]), graph_octets(([0], [[]])))
        self.assertEqual(
            snapshot(replica, version(p0=1), [ROOT]), graph_octets(([0], [[("a", ("ref", 1))], [("a", 1)]])),
        )
        self.assertEqual(
            snapshot(replica, version(p0=2, p1=3, p7=1), [ROOT]),
            graph_octets(([0], [[("b", ("ref", 1))], [("b", "x")]])),
        )

    def test_from_some_roots(self):
        replica = replica_of(3, some_messages())
        replica.hold((1, 0))
        self.assertEqual(
            read_graph(snapshot(replica, version(p1=1), [(1, 0), ROOT, (1, 0)])),
            ([0, 1, 0], [[("a", 3), ("b", "x")], []]),
        )
        self.assertEqual(snapshot(replica, version(p1=1), []), [0])
        self.assertEqual(read_graph(snapshot(replica, version(p1=1), [ROOT])), ([0], [[]]))

    def test_replicas_with_more_messages_tell_the_same(self):
        chance = random.Random(24)
        one = replica_of(3, some_messages())
        for _ in range(50):
            more = some_messages() + [(1, 4, [((30, 1), ROOT, "b", 4)]), (5, 1, [((7, 5), ROOT, "b", 4)])]
            chance.shuffle(more)
            other = replica_of(4, more)
            other.put(ROOT, "a", 9)
            other.send()
            other.put(ROOT, "a", 10)
            for zero, number, seven in itertools.product(range(3), range(4), range(2)):
                cut = version(p0=zero, p1=number, p7=seven)
                self.assertEqual(snapshot(one, cut, [ROOT, (1, 0)]), snapshot(other, cut, [ROOT, (1, 0)]))

    def test_nothing_changes(self):
        replica = replica_of(3, some_messages())
        before, cut, roots = picture(replica), version(p0=1), [ROOT, (1, 0)]
        snapshot(replica, cut, roots).clear()
        self.assertEqual((picture(replica), cut, roots), (before, version(p0=1), [ROOT, (1, 0)]))


class VersionsCase(unittest.TestCase):
    def test_nothing_at_all(self):
        for many in (1, 2, 3):
            replicas = [Replica(peer) for peer in range(many)]
            self.assertEqual(common_version(replicas), version())
            self.assertEqual(known_version(replicas), version())

    def test_one_replica(self):
        replica = replica_with(0, (1, 1), (1, 2), (4, 1), (7, 1), (7, 2), (7, 3))
        self.assertEqual(common_version([replica]), version(p1=2, p4=1, p7=3))
        self.assertEqual(known_version([replica]), version(p1=2, p4=1, p7=3))

    def test_several(self):
        replicas = [
            replica_with(0, (1, 1), (1, 2), (4, 1), (7, 1)),
            replica_with(1, (1, 1), (4, 1), (4, 2), (7, 1), (7, 2)),
            replica_with(2, (1, 1), (1, 2), (1, 3), (4, 1), (7, 1), (0, 1)),
        ]
        self.assertEqual(common_version(replicas), version(p1=1, p4=1, p7=1))
        self.assertEqual(known_version(replicas), version(p0=1, p1=3, p4=2, p7=2))

    def test_gaps(self):
        one = replica_with(0, (1, 1), (1, 3), (2, 2), (3, 1), (3, 2), (3, 9))
        other = replica_with(0, (1, 2), (1, 1), (1, 5), (2, 1), (3, 2), (3, 1))
        self.assertEqual(common_version([one]), version(p1=1, p3=2))
        self.assertEqual(known_version([one]), version(p1=3, p2=2, p3=9))
        self.assertEqual(common_version([one, other]), version(p1=1, p3=2))
        self.assertEqual(known_version([one, other]), version(p1=5, p2=2, p3=9))

    def test_great_numbers_and_the_number_0(self):
        replica = replica_with(0, (1, 4294967295), (2, 0))
        self.assertEqual(common_version([replica]), version())
        self.assertEqual(known_version([replica]), version(p1=4294967295))

    def test_own_messages_count_and_pending_changes_do_not(self):
        replica = Replica(5)
        replica.put(ROOT, "a", 1)
        self.assertEqual(known_version([replica]), version())
        replica.send()
        replica.put(ROOT, "a", 2)
        self.assertEqual(common_version([replica]), version(p5=1))
        self.assertEqual(known_version([replica]), version(p5=1))

    def test_nothing_changes(self):
        replicas = [replica_with(0, (1, 1)), replica_with(1, (1, 2))]
        before = [picture(replica) for replica in replicas]
        common_version(replicas).clear()
        known_version(replicas).clear()
        self.assertEqual([picture(replica) for replica in replicas], before)

    def test_by_definition(self):
        chance = random.Random(25)
        places = list(itertools.product((0, 3, 7), (1, 2, 3)))
        for _ in range(200):
            peers = range(chance.randrange(1, 5))
            replicas = [replica_with(peer, *chance.sample(places, chance.randrange(10))) for peer in peers]
            versions = [replica.version() for replica in replicas]
            self.assertEqual(common_version(replicas), [min(told[peer] for told in versions) for peer in range(8)])
            self.assertEqual(known_version(replicas), [
                max([0] + [number for replica in replicas for sender, number in replica.messages if sender == peer])
                for peer in range(8)
            ])


class ExchangeCase(unittest.TestCase):
    def test_one_replica(self):
        replica = replica_with(0, (1, 1), (1, 3))
        before = picture(replica)
        self.assertEqual(exchange_all([replica]), 0)
        self.assertEqual(picture(replica), before)

    def test_how_many_times_a_message_was_new_somewhere(self):
        replicas = [replica_with(0, (1, 1), (1, 3)), replica_with(1, (1, 3), (2, 1)), replica_with(2)]
        # (1, 1) was new at two of them, (1, 3) at one, (2, 1) at two.
        self.assertEqual(exchange_all(replicas), 5)
        for replica in replicas:
            self.assertEqual(sorted(replica.messages), [(1, 1), (1, 3), (2, 1)])
        self.assertEqual(exchange_all(replicas), 0)

    def test_what_only_the_last_one_has_comes_to_the_first_one(self):
        replicas = [Replica(0), Replica(1), Replica(2), replica_with(3, (6, 1))]
        self.assertEqual(exchange_all(replicas), 3)
        self.assertIs(are_together(replicas), True)

    def test_the_states_are_equal_then(self):
        chance = random.Random(26)
        for _ in range(100):
            replicas = [Replica(peer) for peer in range(chance.randrange(1, 5))]
            for _ in range(20):
                replica = chance.choice(replicas)
                replica.put(ROOT, chance.choice("abc"), chance.choice([None, 1, 2, ("ref", replica.begin())]))
                if chance.randrange(2):
                    replica.send()
                if chance.randrange(4) == 0 and replica.messages:
                    chance.choice(replicas).receive(replica.copy_of(*chance.choice(list(replica.messages))))
            for replica in replicas:
                replica.send()
            every = {place for replica in replicas for place in replica.messages}
            lacks = sum(len(every) - len(replica.messages) for replica in replicas)
            self.assertEqual(exchange_all(replicas), lacks)
            for replica in replicas:
                self.assertTrue(is_equal(replica.state, replicas[0].state))
                self.assertEqual(replica.graph(), replicas[0].graph())
                self.assertEqual(set(replica.messages), every)
            self.assertIs(are_together(replicas), True)
            self.assertEqual(exchange_all(replicas), 0)

    def test_pending_changes_stay(self):
        one, other = Replica(1), replica_with(2, (3, 1))
        change = one.put(ROOT, "a", 1)
        self.assertEqual(exchange_all([one, other]), 1)
        self.assertEqual(one.pending, [change])
        self.assertEqual((one.state.value(ROOT, "a"), other.state.value(ROOT, "a")), (1, None))

    def test_replicas_share_nothing_behind_it(self):
        one, other = replica_with(1, (3, 1)), Replica(2)
        exchange_all([one, other])
        one.messages[(3, 1)].clear()
        self.assertEqual(other.messages, {(3, 1): [change_of(3, 1)]})


class TogetherCase(unittest.TestCase):
    def test_one_replica(self):
        replica = Replica(1)
        self.assertIs(are_together([replica]), True)
        replica.put(ROOT, "a", 1)
        self.assertIs(are_together([replica]), False)
        replica.send()
        self.assertIs(are_together([replica]), True)

    def test_new_replicas(self):
        self.assertIs(are_together([Replica(0), Replica(1), Replica(2)]), True)

    def test_the_same_messages_got_in_other_orders(self):
        messages = some_messages()
        orders = [messages, messages[::-1], messages[2:] + messages[:2]]
        replicas = [replica_of(peer, order) for peer, order in enumerate(orders)]
        self.assertIs(are_together(replicas), True)

    def test_an_own_message_that_the_others_got(self):
        one, other = Replica(1), Replica(2)
        one.put(ROOT, "a", 1)
        octets = one.send()
        self.assertIs(are_together([one, other]), False)
        other.receive(octets)
        self.assertIs(are_together([one, other]), True)

    def test_more_messages_at_one_of_them(self):
        for at in range(3):
            replicas = [replica_with(peer, (1, 1)) for peer in range(3)]
            replicas[at].accept(1, 2, [])
            self.assertIs(are_together(replicas), False)

    def test_as_many_messages_but_others(self):
        self.assertIs(are_together([replica_with(0, (1, 1), (1, 2)), replica_with(0, (1, 1), (1, 3))]), False)
        self.assertIs(are_together([replica_with(0, (1, 1)), replica_with(0, (2, 1))]), False)
        self.assertIs(are_together([replica_with(0, (1, 1)), replica_with(0, (1, 1)), replica_with(0, (1, 2))]), False)

    def test_messages_with_other_changes_are_others(self):
        one, other = Replica(0), Replica(1)
        one.accept(1, 1, [change_of(1, 1)])
        other.accept(1, 1, [change_of(1, 2)])
        self.assertIs(are_together([one, other]), False)

    def test_equal_states_by_other_messages(self):
        one, other = Replica(0), Replica(1)
        one.accept(1, 1, [change_of(1, 1)])
        other.accept(1, 2, [change_of(1, 1)])
        self.assertTrue(is_equal(one.state, other.state))
        self.assertIs(are_together([one, other]), False)

    def test_pending_changes_at_one_of_them(self):
        for at in range(3):
            replicas = [replica_with(peer, (7, 1)) for peer in range(3)]
            self.assertIs(are_together(replicas), True)
            replicas[at].put(ROOT, "a", 1)
            self.assertIs(are_together(replicas), False)

    def test_nothing_changes(self):
        replicas = [replica_with(0, (1, 1)), replica_with(1, (1, 2))]
        before = [picture(replica) for replica in replicas]
        are_together(replicas)
        self.assertEqual([picture(replica) for replica in replicas], before)


if __name__ == "__main__":
    unittest.main()
