"""[31] Networks: replicas, and a channel from each to each other one."""

import copy
import random
import unittest

from graphtwins.channels import Channel
from graphtwins.errors import NoSuchMessage, NothingThere
from graphtwins.network import Network
from graphtwins.replicas import Replica
from graphtwins.snapshots import are_together
from graphtwins.states import State, is_equal
from graphtwins.values import ROOT
from graphtwins.wire import message_octets


def replica_picture(replica):
    return copy.deepcopy((
        replica.peer, replica.clock, replica.made, list(replica.state.cells.items()), replica.roots,
        replica.pending, list(replica.messages.items()),
    ))


def picture(network):
    return (
        [replica_picture(replica) for replica in network.replicas],
        {ends: copy.deepcopy(channel.under_way) for ends, channel in network.channels.items()},
    )


def network_with_message(many=3):
    """A network in which the peer 0 has said a change, and the change."""
    network = Network(many)
    change = network.replicas[0].put(ROOT, "a", 7)
    network.say(0)
    return network, change


class NewCase(unittest.TestCase):
    def test_replicas_and_channels(self):
        for many in (1, 2, 3, 8):
            network = Network(many)
            self.assertIsInstance(network.replicas, list)
            for replica in network.replicas:
                self.assertIsInstance(replica, Replica)
            self.assertEqual([replica.peer for replica in network.replicas], list(range(many)))
            self.assertEqual(sorted(network.channels), [
                (one, other) for one in range(many) for other in range(many) if one != other
            ])
            for channel in network.channels.values():
                self.assertIsInstance(channel, Channel)
                self.assertEqual(channel.under_way, [])
            self.assertEqual(network.under_way(), 0)

    def test_channels_share_nothing(self):
        network, other = Network(3), Network(3)
        network.channels[(0, 1)].put([1])
        self.assertEqual(network.under_way(), 1)
        self.assertEqual(other.under_way(), 0)
        self.assertEqual(network.channels[(1, 0)].under_way, [])


class SayCase(unittest.TestCase):
    def test_a_copy_in_each_channel_from_the_peer(self):
        for many in (1, 2, 3, 8):
            network = Network(many)
            peer = many - 1
            change = network.replicas[peer].put(ROOT, "a", 7)
            self.assertIs(network.say(peer), True)
            message = message_octets(peer, 1, [change])
            for (sender, _), channel in network.channels.items():
                self.assertEqual(channel.under_way, [message] if sender == peer else [])
            self.assertEqual(network.under_way(), many - 1)
            self.assertEqual(network.replicas[peer].pending, [])
            self.assertEqual(network.replicas[peer].messages, {(peer, 1): [change]})

    def test_without_pending_changes(self):
        network, _ = network_with_message()
        for peer in range(3):
            before = picture(network)
            self.assertIs(network.say(peer), False)
            self.assertEqual(picture(network), before)

    def test_only_that_peer(self):
        network = Network(3)
        network.replicas[1].put(ROOT, "a", 1)
        self.assertIs(network.say(0), False)
        self.assertEqual(len(network.replicas[1].pending), 1)
        self.assertEqual(network.under_way(), 0)

    def test_behind_what_is_under_way(self):
        network, _ = network_with_message()
        network.replicas[0].put(ROOT, "a", 8)
        network.replicas[0].put(ROOT, "b", 9)
        self.assertIs(network.say(0), True)
        self.assertEqual([message[4] for message in network.channels[(0, 2)].under_way], [1, 2])
        self.assertEqual(network.under_way(), 4)

    def test_copies_share_nothing(self):
        network, change = network_with_message()
        network.channels[(0, 1)].damage(0, 0, 99)
        network.channels[(0, 1)].cut(0, 3)
        self.assertEqual(network.channels[(0, 2)].under_way, [message_octets(0, 1, [change])])
        self.assertEqual(network.replicas[0].copy_of(0, 1), message_octets(0, 1, [change]))


class HandOnCase(unittest.TestCase):
    def test_an_own_message(self):
        network, change = network_with_message()
        network.channels[(0, 1)].lose(0)
        network.hand_on(0, 1, 0, 1)
        self.assertEqual(network.channels[(0, 1)].under_way, [message_octets(0, 1, [change])])
        self.assertEqual(network.under_way(), 2)
        self.assertEqual(network.deliver(0, 1, 0), "new")

    def test_a_message_of_another_peer(self):
        network, change = network_with_message()
        network.deliver(0, 1, 0)
        network.hand_on(1, 2, 0, 1)
        self.assertEqual(network.channels[(1, 2)].under_way, [message_octets(0, 1, [change])])
        self.assertEqual(network.deliver(1, 2, 0), "new")
        self.assertEqual(network.deliver(0, 2, 0), "known")
        network.hand_on(1, 0, 0, 1)
        self.assertEqual(network.deliver(1, 0, 0), "known")

    def test_behind_what_is_under_way(self):
        network, change = network_with_message()
        network.replicas[1].put(ROOT, "b", 1)
        network.say(1)
        network.deliver(0, 1, 0)
        network.hand_on(1, 2, 0, 1)
        self.assertEqual([message[0] for message in network.channels[(1, 2)].under_way], [1, 0])

    def test_no_such_message(self):
        network, _ = network_with_message()
        before = picture(network)
        for one, other, sender, number in ((0, 1, 0, 2), (0, 1, 0, 0), (0, 2, 1, 1), (1, 2, 0, 1), (2, 0, 7, 5)):
            with self.assertRaises(NoSuchMessage) as caught:
                network.hand_on(one, other, sender, number)
            self.assertEqual((caught.exception.sender, caught.exception.number), (sender, number))
            self.assertEqual(picture(network), before)


class DeliverCase(unittest.TestCase):
    def test_new_and_known(self):
        network, change = network_with_message()
        network.channels[(0, 1)].double(0)
        self.assertEqual(network.deliver(0, 1, 0), "new")
        self.assertEqual(network.channels[(0, 1)].under_way, [message_octets(0, 1, [change])])
        self.assertEqual(network.replicas[1].messages, {(0, 1): [change]})
        self.assertEqual(network.replicas[1].state.value(ROOT, "a"), 7)
        before = replica_picture(network.replicas[1])
        self.assertEqual(network.deliver(0, 1, 0), "known")
        self.assertEqual(network.channels[(0, 1)].under_way, [])
        self.assertEqual(replica_picture(network.replicas[1]), before)
        self.assertEqual(network.replicas[2].messages, {})

    def test_damaged(self):
        spots = len(network_with_message()[0].channels[(0, 1)].under_way[0])
        for spot in range(spots):
            network, _ = network_with_message()
            channel = network.channels[(0, 1)]
            channel.damage(0, spot, (channel.under_way[0][spot] + 1) % 256)
            before = replica_picture(network.replicas[1])
            self.assertEqual(network.deliver(0, 1, 0), "damaged")
            self.assertEqual(channel.under_way, [])
            self.assertEqual(replica_picture(network.replicas[1]), before)
            self.assertEqual(network.deliver(0, 2, 0), "new")

    def test_cut(self):
        network, _ = network_with_message()
        for length in range(len(network.channels[(0, 1)].under_way[0])):
            network.hand_on(0, 1, 0, 1)
            network.channels[(0, 1)].cut(1, length)
            self.assertEqual(network.deliver(0, 1, 1), "damaged")
        self.assertEqual(network.deliver(0, 1, 0), "new")

    def test_damaged_copies_of_known_messages(self):
        network, _ = network_with_message()
        network.channels[(0, 1)].double(0)
        network.deliver(0, 1, 0)
        network.channels[(0, 1)].damage(0, 0, 9)
        self.assertEqual(network.deliver(0, 1, 0), "damaged")

    def test_the_place(self):
        network, _ = network_with_message()
        network.replicas[0].put(ROOT, "b", 8)
        network.say(0)
        self.assertEqual(network.deliver(0, 1, 1), "new")
        self.assertEqual(sorted(network.replicas[1].messages), [(0, 2)])
        self.assertEqual([message[4] for message in network.channels[(0, 1)].under_way], [1])

    def test_nothing_there(self):
        network, _ = network_with_message()
        before = picture(network)
        for one, other, place in ((0, 1, 1), (0, 1, -1), (0, 2, 7), (1, 0, 0), (2, 1, 0), (2, 1, -2)):
            with self.assertRaises(NothingThere) as caught:
                network.deliver(one, other, place)
            self.assertEqual(caught.exception.place, place)
            self.assertEqual(picture(network), before)

    def test_kinds_of_results(self):
        network, _ = network_with_message()
        network.channels[(0, 1)].put([])
        network.channels[(0, 1)].put(message_octets(7, 0, []))
        self.assertEqual([network.deliver(0, 1, 0) for _ in range(3)], ["new", "damaged", "new"])


class UnderWayCase(unittest.TestCase):
    def test_all_channels(self):
        network, _ = network_with_message(4)
        self.assertEqual(network.under_way(), 3)
        network.channels[(0, 1)].double(0)
        network.channels[(3, 2)].put([])
        self.assertEqual(network.under_way(), 5)
        network.channels[(0, 3)].lose(0)
        self.assertEqual(network.under_way(), 4)
        network.deliver(3, 2, 0)
        self.assertEqual(network.under_way(), 3)


class SettleCase(unittest.TestCase):
    def test_nothing_to_settle(self):
        for many in (1, 2, 8):
            network = Network(many)
            before = picture(network)
            self.assertEqual(network.settle(), 0)
            self.assertEqual(picture(network), before)

    def test_what_is_pending_is_sent_into_no_channel(self):
        network = Network(3)
        changes = [network.replicas[peer].put(ROOT, "abc"[peer], peer) for peer in (0, 2)]
        self.assertEqual(network.settle(), 4)
        self.assertEqual(network.under_way(), 0)
        for replica in network.replicas:
            self.assertEqual(replica.pending, [])
            self.assertEqual(replica.messages, {(0, 1): [changes[0]], (2, 1): [changes[1]]})
        self.assertIs(are_together(network.replicas), True)
        self.assertEqual(network.settle(), 0)

    def test_one_replica(self):
        network = Network(1)
        change = network.replicas[0].put(ROOT, "a", 1)
        self.assertEqual(network.settle(), 0)
        self.assertEqual(network.replicas[0].messages, {(0, 1): [change]})

    def test_what_is_under_way_stays_and_is_known_later(self):
        network, change = network_with_message()
        network.deliver(0, 2, 0)
        before = picture(network)[1]
        self.assertEqual(network.settle(), 1)
        self.assertEqual(picture(network)[1], before)
        self.assertEqual(network.deliver(0, 1, 0), "known")

    def test_how_many_were_brought(self):
        network, _ = network_with_message(4)
        network.deliver(0, 3, 0)
        network.replicas[3].put(ROOT, "b", 1)
        network.say(3)
        network.deliver(3, 0, 0)
        # The first message lacks at two peers, the second one too.
        self.assertEqual(network.settle(), 4)
        self.assertEqual(network.settle(), 0)

    def test_what_only_the_last_peer_has(self):
        network = Network(8)
        network.replicas[7].accept(3, 9, [((5, 3), ROOT, "a", 1)])
        self.assertEqual(network.settle(), 7)
        for replica in network.replicas:
            self.assertEqual(replica.state.value(ROOT, "a"), 1)

    def test_whatever_happened_before(self):
        chance = random.Random(31)
        for _ in range(80):
            network = Network(chance.choice([1, 2, 3, 4, 8]))
            every = {}
            for _ in range(3):
                for _ in range(25):
                    one_step(chance, network, every)
                self.check_settled(network, every)
                for (one, other), channel in network.channels.items():
                    while channel.under_way and chance.randrange(3):
                        place = chance.randrange(len(channel.under_way))
                        self.assertIn(network.deliver(one, other, place), ("known", "damaged"))

    def check_settled(self, network, every):
        under_way = {ends: copy.deepcopy(channel.under_way) for ends, channel in network.channels.items()}
        before = [list(replica.messages) for replica in network.replicas]
        sent = [bool(replica.pending) for replica in network.replicas]
        brought = network.settle()
        every_place = len(network.replicas[0].messages)
        self.assertEqual(brought, sum(every_place - len(places) for places in before) - sum(sent))
        self.assertEqual(every_place, len({place for places in before for place in places}) + sum(sent))
        self.assertEqual({ends: channel.under_way for ends, channel in network.channels.items()}, under_way)
        self.assertIs(are_together(network.replicas), True)
        state = State()
        for change in every:
            state.take(change)
        for replica in network.replicas:
            self.assertTrue(is_equal(replica.state, state))
            self.assertEqual(replica.graph(), network.replicas[0].graph())
        for (_, name, field, _) in every:
            latest = max(change for change in every if change[1:3] == (name, field))
            self.assertEqual(network.replicas[-1].state.value(name, field), latest[3])
        self.assertEqual(network.settle(), 0)


def one_step(chance, network, every):
    """Something that a peer or a fault does; every change is put down."""
    peer = chance.randrange(len(network.replicas))
    replica = network.replicas[peer]
    kind = chance.randrange(8)
    if kind < 3:
        known = [ROOT] + replica.state.names() + [replica.begin()]
        value = chance.choice([None, chance.randrange(9), ("ref", chance.choice(known))])
        every[replica.put(chance.choice(known), chance.choice("ab"), value)] = True
    elif kind == 3:
        network.say(peer)
    elif network.channels:
        ends, channel = chance.choice(list(network.channels.items()))
        places = list(network.replicas[ends[0]].messages)
        if kind == 4 and places:
            network.hand_on(*ends, *chance.choice(places))
        elif kind == 5 and channel.under_way:
            network.deliver(*ends, chance.randrange(len(channel.under_way)))
        elif channel.under_way:
            one_fault(chance, channel)


def one_fault(chance, channel):
    place = chance.randrange(len(channel.under_way))
    kind = chance.randrange(5)
    if kind == 0:
        channel.lose(place)
    elif kind == 1:
        channel.double(place)
    elif kind == 2:
        channel.exchange(place, chance.randrange(len(channel.under_way)))
    elif kind == 3 and channel.under_way[place]:
        channel.damage(place, chance.randrange(len(channel.under_way[place])), chance.randrange(256))
    else:
        channel.cut(place, chance.randrange(len(channel.under_way[place]) + 1))


if __name__ == "__main__":
    unittest.main()
