"""What the document promises over the whole program: many sessions of a network, whatever happens in it."""

import copy
import random
import unittest

from graphtwins.collection import collect, garbage, marks
from graphtwins.errors import NotTogether
from graphtwins.graphs import are_alike, numbered
from graphtwins.journal import opened, record_of
from graphtwins.lazy import LazyPeer, fetch_all, is_whole
from graphtwins.network import Network
from graphtwins.octets import graph_octets, read_graph
from graphtwins.patches import applied, between, patch
from graphtwins.replicas import Replica
from graphtwins.snapshots import are_together, common_version, exchange_all, known_version, snapshot, state_of_cut
from graphtwins.states import State, is_below, is_equal, joined
from graphtwins.texts import format_graph, parse_graph
from graphtwins.undoing import Undoer
from graphtwins.values import ROOT
from graphtwins.watches import Watcher, value_at


class Sessions:
    """A network in which peers and faults do anything; what was set is put down."""

    def __init__(self, chance, many):
        self.chance = chance
        self.network = Network(many)
        self.undoers = [Undoer(replica) for replica in self.network.replicas]
        self.changes = []

    def known_to(self, replica):
        return [ROOT, ROOT] + replica.state.names() + [replica.begin()]

    def set_something(self, peer):
        replica, undoer = self.network.replicas[peer], self.undoers[peer]
        names = self.known_to(replica)
        kind = self.chance.randrange(8)
        if kind == 0:
            change = undoer.undo()
        elif kind == 1:
            change = undoer.redo()
        else:
            value = self.chance.choice([None, self.chance.randrange(9), "x"] + [("ref", self.chance.choice(names))] * 3)
            holder = self.chance.choice([replica, undoer])
            change = holder.put(self.chance.choice(names), self.chance.choice("ab"), value)
        if change is not None:
            # It is later than all that its replica had.
            assert change[0] == (replica.clock, peer)
            assert all(change[0] > stamp for stamp, _ in replica.state.cells.values() if stamp != change[0])
            self.changes.append(change)

    def change_roots(self, peer):
        replica = self.network.replicas[peer]
        if self.chance.randrange(2):
            replica.hold(self.chance.choice([ROOT] + replica.state.names()))
        else:
            replica.drop(self.chance.choice(replica.roots))

    def one_fault(self, channel):
        place = self.chance.randrange(len(channel.under_way))
        message = channel.under_way[place]
        self.chance.choice([
            lambda: channel.lose(place), lambda: channel.double(place), lambda: channel.cut(place, len(message) // 2),
            lambda: channel.exchange(place, self.chance.randrange(len(channel.under_way))),
            lambda: message and channel.damage(place, self.chance.randrange(len(message)), self.chance.randrange(256)),
        ])()

    def one_step(self):
        peer = self.chance.randrange(len(self.network.replicas))
        kind = self.chance.randrange(10)
        if kind < 4:
            self.set_something(peer)
        elif kind == 4:
            self.network.say(peer)
        elif kind == 5:
            self.change_roots(peer)
        elif self.network.channels:
            (one, other), channel = self.chance.choice(list(self.network.channels.items()))
            held = list(self.network.replicas[one].messages)
            if kind == 6 and held:
                self.network.hand_on(one, other, *self.chance.choice(held))
            elif channel.under_way and kind < 9:
                self.network.deliver(one, other, self.chance.randrange(len(channel.under_way)))
            elif channel.under_way:
                self.one_fault(channel)

    def state(self):
        """The state that all changes make."""
        state = State()
        for change in self.changes:
            state.take(change)
        return state


def picture(replica):
    return copy.deepcopy((
        replica.peer, replica.clock, replica.made, list(replica.state.cells.items()), replica.roots,
        replica.pending, list(replica.messages.items()),
    ))


class Case(unittest.TestCase):
    def assert_equal_states(self, network):
        for replica in network.replicas:
            self.assertTrue(is_equal(replica.state, network.replicas[0].state))

    def deliver_all(self, network):
        """Deliver all that is under way; return what that told."""
        told = []
        for (one, other), channel in network.channels.items():
            while channel.under_way:
                told.append(network.deliver(one, other, 0))
        return told


class AnyTimeCase(Case):
    def test_replicas_with_the_same_messages_have_alike_graphs(self):
        chance = random.Random(1)
        for _ in range(25):
            sessions = Sessions(chance, chance.choice([2, 3, 5]))
            replicas = sessions.network.replicas
            for _ in range(80):
                sessions.one_step()
                quiet = [replica for replica in replicas if not replica.pending]
                for one in quiet:
                    for other in quiet:
                        if sorted(one.messages) == sorted(other.messages):
                            self.assertTrue(are_alike(one.state, [ROOT], other.state, [ROOT]))
                            self.assertTrue(is_equal(one.state, other.state))
                            self.assertIs(are_together([one, other]), True)

    def test_the_state_is_what_messages_and_pending_changes_make(self):
        chance = random.Random(2)
        for _ in range(25):
            sessions = Sessions(chance, chance.choice([1, 2, 4]))
            for _ in range(60):
                sessions.one_step()
            for replica in sessions.network.replicas:
                state = State()
                for changes in list(replica.messages.values()) + [replica.pending]:
                    for change in changes:
                        state.take(change)
                self.assertTrue(is_equal(replica.state, state))

    def test_cuts_and_snapshots(self):
        chance = random.Random(3)
        for _ in range(25):
            sessions = Sessions(chance, chance.choice([1, 2, 4]))
            replicas = sessions.network.replicas
            for _ in range(60):
                sessions.one_step()
            cut = common_version(replicas)
            told = snapshot(replicas[0], cut, [ROOT])
            for replica in replicas:
                self.assertEqual(snapshot(replica, cut, [ROOT]), told)
                self.assertTrue(is_below(state_of_cut(replica, cut), replica.state))
            self.assertEqual(graph_octets(read_graph(told)), told)
            sessions.network.settle()
            self.assertEqual(common_version(replicas), known_version(replicas))
            self.assertTrue(is_equal(state_of_cut(replicas[-1], common_version(replicas)), replicas[0].state))


class SettlingCase(Case):
    def test_settlings_one_behind_the_other(self):
        chance = random.Random(4)
        for _ in range(20):
            sessions = Sessions(chance, chance.choice([1, 2, 3, 5, 8]))
            for _ in range(4):
                for _ in range(40):
                    sessions.one_step()
                sessions.network.settle()
                self.assert_equal_states(sessions.network)
                self.assertIs(are_together(sessions.network.replicas), True)
                self.assertTrue(is_equal(sessions.network.replicas[0].state, sessions.state()))
                self.assertEqual(sessions.network.settle(), 0)
                if chance.randrange(2):
                    self.assertNotIn("new", self.deliver_all(sessions.network))


class CollectionCase(Case):
    def test_settlings_and_collections_one_behind_the_other(self):
        chance = random.Random(5)
        let_go = 0
        for _ in range(30):
            sessions = Sessions(chance, chance.choice([1, 2, 3, 5]))
            for _ in range(5):
                for _ in range(40):
                    sessions.one_step()
                sessions.network.settle()
                self.assert_equal_states(sessions.network)
                self.check_latest(sessions)
                let_go += len(self.check_collection(sessions.network))
                if chance.randrange(2):
                    self.check_old_messages(sessions.network)
        self.assertGreater(let_go, 100)

    def check_latest(self, sessions):
        """See that each field that is still set has the value that was set with the latest stamp."""
        state, everything = sessions.network.replicas[0].state, sessions.state()
        for name, field in state.cells:
            self.assertEqual(state.cells[(name, field)], everything.cells[(name, field)])

    def check_collection(self, network):
        graphs = [replica.graph() for replica in network.replicas]
        messages = copy.deepcopy([replica.messages for replica in network.replicas])
        gone = collect(network.replicas)
        self.assertEqual([replica.graph() for replica in network.replicas], graphs)
        self.assertEqual([replica.messages for replica in network.replicas], messages)
        self.assert_equal_states(network)
        marked = [name for replica in network.replicas for name in marks(replica)]
        for replica in network.replicas:
            for name, _ in replica.state.cells:
                self.assertIn(name, marked)
                self.assertNotIn(name, gone)
        self.assertEqual(garbage(network.replicas), [])
        self.assertEqual(collect(network.replicas), [])
        return gone

    def check_old_messages(self, network):
        """Hand old messages on once more, and deliver all that is under way: nothing changes by it."""
        before = [picture(replica) for replica in network.replicas]
        for one, other in network.channels:
            for sender, number in network.replicas[one].messages:
                network.hand_on(one, other, sender, number)
        self.assertNotIn("new", self.deliver_all(network))
        self.assertEqual([picture(replica) for replica in network.replicas], before)
        self.assertEqual(network.settle(), 0)

    def test_refused_collections_change_nothing(self):
        chance = random.Random(6)
        refused = 0
        for _ in range(60):
            sessions = Sessions(chance, chance.choice([1, 2, 3]))
            for _ in range(chance.randrange(30)):
                sessions.one_step()
            replicas = sessions.network.replicas
            if not are_together(replicas):
                before = [picture(replica) for replica in replicas]
                with self.assertRaises(NotTogether):
                    collect(replicas)
                self.assertEqual([picture(replica) for replica in replicas], before)
                refused += 1
        self.assertGreater(refused, 10)


class TogetherWithTheOthersCase(Case):
    """The other modules over the states that sessions make."""

    def settled(self, chance):
        sessions = Sessions(chance, chance.choice([1, 2, 3]))
        for _ in range(60):
            sessions.one_step()
        sessions.network.settle()
        return sessions

    def test_lazy_peers(self):
        chance = random.Random(7)
        for _ in range(20):
            sessions = self.settled(chance)
            replica = sessions.network.replicas[0]
            lazy = LazyPeer()
            fetch_all(lazy, replica.state, [ROOT], chance.randrange(4))
            for number in range(3):
                change = replica.put(ROOT, "ab"[number % 2], ("ref", chance.choice([ROOT] + replica.state.names())))
                lazy.take_in([change])
            lazy.fetch(replica.state, [ROOT])
            for name in lazy.here:
                self.assertEqual(lazy.fields(name), replica.state.fields(name))
            fetch_all(lazy, replica.state, [ROOT], 1000)
            self.assertIs(is_whole(lazy, [ROOT]), True)
            self.assertEqual(numbered(lazy.state, [ROOT]), numbered(replica.state, [ROOT]))

    def test_patches(self):
        chance = random.Random(8)
        for _ in range(20):
            one, other = self.settled(chance).network.replicas[0].state, self.settled(chance).network.replicas[0].state
            self.assertTrue(is_equal(applied(one, patch(one, other)), joined(one, other)))
            clock = max([stamp[0] for stamp, _ in one.cells.values()], default=0)
            twin = applied(one, between(one, other, clock, 3))
            self.assertTrue(are_alike(twin, [ROOT], other, [ROOT]))

    def test_watchers(self):
        chance = random.Random(9)
        for _ in range(20):
            sessions = Sessions(chance, 2)
            replica = sessions.network.replicas[0]
            watcher = Watcher(replica.state.copy())
            told = {path: watcher.watch(list(path)) for path in ("", "a", "b", "aa", "ab", "bab")}
            for _ in range(30):
                for _ in range(4):
                    sessions.one_step()
                for path, before, behind in watcher.news(replica.state.copy()):
                    self.assertEqual(told["".join(path)], before)
                    told["".join(path)] = behind
                self.assertEqual(told, {path: value_at(replica.state, list(path)) for path in told})

    def test_journals(self):
        chance = random.Random(10)
        for _ in range(20):
            sessions = self.settled(chance)
            replica = sessions.network.replicas[0]
            octets = []
            for sender, number in replica.messages:
                octets = octets + record_of(replica.copy_of(sender, number))
            again = opened(0, octets + [0] * chance.randrange(5), 100000).replica
            self.assertTrue(is_equal(again.state, replica.state))
            self.assertEqual(again.messages, replica.messages)
            self.assertEqual(again.clock, max([change[0][0] for change in sessions.changes], default=0))
            late = Replica(7)
            exchange_all([again, late])
            self.assertTrue(is_equal(late.state, replica.state))

    def test_texts_and_octets(self):
        chance = random.Random(11)
        for _ in range(20):
            replicas = self.settled(chance).network.replicas
            graph = numbered(replicas[0].state, [ROOT])
            for replica in replicas:
                self.assertEqual(graph_octets(numbered(replica.state, [ROOT])), graph_octets(graph))
            self.assertEqual(read_graph(graph_octets(graph)), graph)
            self.assertEqual(parse_graph(format_graph(graph)), graph)


if __name__ == "__main__":
    unittest.main()
