"""[17] [18] [19] [20] Replicas."""

import copy
import itertools
import random
import unittest

from graphtwins.errors import BadPeer, CodeError, NoSuchMessage, NoSuchObject
from graphtwins.replicas import Replica
from graphtwins.states import State
from graphtwins.values import ROOT
from graphtwins.wire import check_of, message_octets, read_message


def ref(name):
    return ("ref", name)


def picture(replica):
    """All that a replica holds, as plain data of its own."""
    return copy.deepcopy((
        replica.peer, replica.clock, replica.made, replica.state.cells, replica.roots, replica.pending, replica.messages,
    ))


def state_of(changes):
    state = State()
    for change in changes:
        state.take(change)
    return state


class Case(unittest.TestCase):
    def assert_unknown(self, replica, name, call, *arguments):
        """Assert that a call raises NoSuchObject with a name, and changes nothing."""
        before = picture(replica)
        with self.assertRaises(NoSuchObject) as caught:
            call(*arguments)
        self.assertEqual(caught.exception.name, name)
        self.assertEqual(picture(replica), before)


class NewCase(Case):
    def test_every_field(self):
        for peer in range(8):
            replica = Replica(peer)
            self.assertEqual(replica.peer, peer)
            self.assertEqual(replica.clock, 0)
            self.assertEqual(replica.made, 1 if peer == 0 else 0)
            self.assertIsInstance(replica.state, State)
            self.assertEqual(replica.state.cells, {})
            self.assertEqual(replica.roots, [ROOT])
            self.assertEqual(replica.pending, [])
            self.assertEqual(replica.messages, {})
            self.assertIsInstance(replica.roots, list)
            self.assertIsInstance(replica.pending, list)
            self.assertIsInstance(replica.messages, dict)

    def test_replicas_share_nothing(self):
        one, other = Replica(1), Replica(1)
        one.put(ROOT, "a", 1)
        one.hold(one.begin())
        one.send()
        one.put(ROOT, "a", 2)
        self.assertEqual(picture(other), picture(Replica(1)))

    def test_no_such_peer(self):
        for peer in (-1, 8, 9, -8, 255, 1000000):
            with self.assertRaises(BadPeer) as caught:
                Replica(peer)
            self.assertEqual(caught.exception.peer, peer)


class KnowsCase(Case):
    def test_the_root(self):
        for peer in range(8):
            self.assertIs(Replica(peer).knows(ROOT), True)

    def test_nothing_else_at_first(self):
        for peer in range(8):
            replica = Replica(peer)
            for name in itertools.product(range(8), (0, 1, 2, 4294967295)):
                self.assertIs(replica.knows(name), name == ROOT)

    def test_objects_begun(self):
        for peer in range(8):
            replica = Replica(peer)
            names = [replica.begin() for _ in range(3)]
            for name in itertools.product(range(8), range(6)):
                self.assertIs(replica.knows(name), name == ROOT or name in names, (peer, name))

    def test_objects_that_the_state_mentions(self):
        replica = Replica(3)
        replica.accept(1, 1, [
            ((1, 1), (1, 7), "a", 5), ((2, 1), (2, 7), "b", None), ((3, 1), (4, 7), "c", ref((5, 7))), ((4, 1), ROOT, "d", ref((6, 7))),
        ])
        for name in ((1, 7), (2, 7), (4, 7), (5, 7), (6, 7), ROOT):
            self.assertIs(replica.knows(name), True, name)
        for name in ((1, 6), (1, 8), (2, 6), (3, 0), (3, 7), (5, 6), (7, 7), (0, 1)):
            self.assertIs(replica.knows(name), False, name)

    def test_references_that_were_cleared_or_hidden_mention_nothing(self):
        replica = Replica(3)
        replica.accept(1, 1, [((1, 1), ROOT, "a", ref((1, 0))), ((2, 1), ROOT, "a", None)])
        replica.accept(1, 2, [((4, 1), ROOT, "b", 1), ((3, 1), ROOT, "b", ref((1, 1)))])
        self.assertIs(replica.knows((1, 0)), False)
        self.assertIs(replica.knows((1, 1)), False)

    def test_roots_are_not_known_by_being_roots(self):
        replica = Replica(3)
        replica.accept(1, 1, [((1, 1), ROOT, "a", ref((1, 0)))])
        self.assertIs(replica.hold((1, 0)), True)
        replica.put(ROOT, "a", None)
        self.assertIs(replica.knows((1, 0)), False)
        self.assertEqual(replica.roots, [ROOT, (1, 0)])


class BeginCase(Case):
    def test_names_in_order(self):
        for peer in range(1, 8):
            replica = Replica(peer)
            self.assertEqual([replica.begin() for _ in range(4)], [(peer, 0), (peer, 1), (peer, 2), (peer, 3)])
            self.assertEqual(replica.made, 4)

    def test_peer_0(self):
        replica = Replica(0)
        self.assertEqual([replica.begin() for _ in range(3)], [(0, 1), (0, 2), (0, 3)])
        self.assertEqual(replica.made, 4)

    def test_nothing_else_changes(self):
        replica = Replica(2)
        expected = list(picture(replica))
        replica.begin()
        expected[2] = 1
        self.assertEqual(picture(replica), tuple(expected))


class PutCase(Case):
    def test_the_change(self):
        replica = Replica(4)
        change = replica.put(ROOT, "a", 5)
        self.assertEqual(change, ((1, 4), ROOT, "a", 5))
        self.assertEqual(replica.clock, 1)
        self.assertEqual(replica.pending, [change])
        self.assertEqual(replica.state.cells, {(ROOT, "a"): ((1, 4), 5)})
        self.assertEqual(replica.messages, {})
        self.assertEqual(replica.roots, [ROOT])
        self.assertEqual(replica.made, 0)

    def test_several_changes(self):
        replica = Replica(0)
        name = replica.begin()
        changes = [
            replica.put(ROOT, "a", ref(name)), replica.put(name, "b", "text"), replica.put(ROOT, "a", ref(ROOT)),
            replica.put(name, "b", ""), replica.put(name, "c", -1000000),
        ]
        self.assertEqual(changes, [
            ((1, 0), ROOT, "a", ref((0, 1))), ((2, 0), (0, 1), "b", "text"), ((3, 0), ROOT, "a", ref(ROOT)),
            ((4, 0), (0, 1), "b", ""), ((5, 0), (0, 1), "c", -1000000),
        ])
        self.assertEqual(replica.pending, changes)
        self.assertEqual(replica.clock, 5)
        self.assertEqual(replica.state.cells, state_of(changes).cells)

    def test_clearing(self):
        replica = Replica(1)
        replica.put(ROOT, "a", 5)
        self.assertEqual(replica.put(ROOT, "a", None), ((2, 1), ROOT, "a", None))
        self.assertEqual(replica.put(ROOT, "b", None), ((3, 1), ROOT, "b", None))
        self.assertEqual(replica.state.cells, {(ROOT, "a"): ((2, 1), None), (ROOT, "b"): ((3, 1), None)})
        self.assertEqual(len(replica.pending), 3)

    def test_the_same_value_again(self):
        replica = Replica(1)
        replica.put(ROOT, "a", 5)
        self.assertEqual(replica.put(ROOT, "a", 5), ((2, 1), ROOT, "a", 5))
        self.assertEqual(replica.state.stamp(ROOT, "a"), (2, 1))
        self.assertEqual(len(replica.pending), 2)

    def test_the_stamp_is_later_than_all_that_was_taken_in(self):
        replica = Replica(1)
        replica.accept(7, 1, [((40, 7), ROOT, "a", "theirs")])
        self.assertEqual(replica.put(ROOT, "a", "mine"), ((41, 1), ROOT, "a", "mine"))
        self.assertEqual(replica.state.value(ROOT, "a"), "mine")

    def test_known_objects_of_others(self):
        replica = Replica(1)
        replica.accept(2, 1, [((1, 2), (2, 5), "a", None), ((2, 2), ROOT, "a", ref((3, 5)))])
        replica.put((2, 5), "b", ref((3, 5)))
        replica.put((3, 5), "b", ref((2, 5)))
        self.assertEqual(replica.state.value((2, 5), "b"), ref((3, 5)))
        self.assertEqual(replica.state.value((3, 5), "b"), ref((2, 5)))

    def test_unknown_objects(self):
        replica = Replica(1)
        own = replica.begin()
        replica.put(own, "a", 1)
        for name in ((1, 1), (2, 0), (0, 1), (7, 4294967295)):
            for value in (1, None, "text", ref(ROOT), ref(own), ref(name), ref((5, 5))):
                self.assert_unknown(replica, name, replica.put, name, "a", value)

    def test_unknown_targets(self):
        replica = Replica(1)
        own = replica.begin()
        replica.put(own, "a", 1)
        for target in ((1, 1), (2, 0), (0, 1), (7, 4294967295)):
            for name in (ROOT, own):
                self.assert_unknown(replica, target, replica.put, name, "a", ref(target))

    def test_an_unknown_object_does_not_become_known(self):
        replica = Replica(1)
        self.assert_unknown(replica, (2, 0), replica.put, ROOT, "a", ref((2, 0)))
        self.assert_unknown(replica, (2, 0), replica.put, (2, 0), "a", ref((2, 0)))
        self.assertIs(replica.knows((2, 0)), False)

    def test_setting_a_field_without_asking_for_known_objects(self):
        # What undoing and redoing need.
        replica = Replica(1)
        changes = [replica.set_field((2, 0), "a", ref((3, 1))), replica.set_field(ROOT, "a", None)]
        self.assertEqual(changes, [((1, 1), (2, 0), "a", ref((3, 1))), ((2, 1), ROOT, "a", None)])
        self.assertEqual((replica.clock, replica.pending), (2, changes))
        self.assertEqual(replica.state.cells, state_of(changes).cells)


class RootsCase(Case):
    def test_hold(self):
        replica = Replica(1)
        own, other = replica.begin(), replica.begin()
        self.assertIs(replica.hold(other), True)
        self.assertIs(replica.hold(own), True)
        self.assertEqual(replica.roots, [ROOT, other, own])
        for name in (ROOT, own, other):
            self.assertIs(replica.hold(name), False)
        self.assertEqual(replica.roots, [ROOT, other, own])

    def test_hold_objects_that_the_state_mentions(self):
        replica = Replica(1)
        replica.accept(2, 1, [((1, 2), (2, 5), "a", ref((3, 5)))])
        self.assertIs(replica.hold((3, 5)), True)
        self.assertIs(replica.hold((2, 5)), True)
        self.assertEqual(replica.roots, [ROOT, (3, 5), (2, 5)])

    def test_hold_unknown_objects(self):
        replica = Replica(1)
        replica.hold(replica.begin())
        for name in ((1, 1), (2, 0), (0, 1)):
            self.assert_unknown(replica, name, replica.hold, name)

    def test_drop(self):
        replica = Replica(1)
        names = [replica.begin() for _ in range(3)]
        for name in names:
            replica.hold(name)
        self.assertIs(replica.drop(names[1]), True)
        self.assertEqual(replica.roots, [ROOT, names[0], names[2]])
        self.assertIs(replica.drop(names[1]), False)
        self.assertIs(replica.drop((5, 5)), False)
        self.assertEqual(replica.roots, [ROOT, names[0], names[2]])
        self.assertIs(replica.hold(names[1]), True)
        self.assertEqual(replica.roots, [ROOT, names[0], names[2], names[1]])

    def test_the_root_stays(self):
        for peer in (0, 1):
            replica = Replica(peer)
            self.assertIs(replica.drop(ROOT), False)
            self.assertEqual(replica.roots, [ROOT])

    def test_nothing_else_changes(self):
        replica = Replica(1)
        own = replica.begin()
        replica.put(own, "a", 1)
        expected = picture(replica)
        replica.hold(own)
        replica.drop(own)
        self.assertEqual(picture(replica), expected)


class SendCase(Case):
    def test_without_pending_changes(self):
        replica = Replica(1)
        before = picture(replica)
        self.assertIsNone(replica.send())
        self.assertEqual(picture(replica), before)
        replica.put(ROOT, "a", 1)
        replica.send()
        before = picture(replica)
        self.assertIsNone(replica.send())
        self.assertEqual(picture(replica), before)

    def test_the_message(self):
        replica = Replica(3)
        own = replica.begin()
        changes = [replica.put(own, "b", "x"), replica.put(ROOT, "a", ref(own)), replica.put(own, "b", None)]
        octets = replica.send()
        self.assertEqual(octets, message_octets(3, 1, changes))
        self.assertIsInstance(octets, list)
        self.assertEqual(replica.pending, [])
        self.assertEqual(replica.messages, {(3, 1): changes})
        self.assertEqual(replica.clock, 3)
        self.assertEqual(replica.state.cells, state_of(changes).cells)

    def test_the_next_numbers(self):
        replica = Replica(0)
        for number in range(1, 300):
            replica.send()
            change = replica.put(ROOT, "a", number)
            self.assertEqual(read_message(replica.send()), (0, number, [change]))
        self.assertEqual(replica.count(0), 299)

    def test_messages_of_others_use_up_no_number(self):
        replica = Replica(1)
        replica.accept(2, 1, [])
        replica.accept(2, 2, [])
        replica.accept(0, 1, [])
        replica.put(ROOT, "a", 1)
        self.assertEqual(read_message(replica.send())[:2], (1, 1))

    def test_the_next_number_behind_own_messages_that_came_back(self):
        replica = Replica(1)
        for number, expected in ((0, 1), (2, 3), (9, 10), (5, 11)):
            self.assertIs(replica.accept(1, number, []), True)
            replica.put(ROOT, "a", number)
            self.assertEqual(read_message(replica.send())[:2], (1, expected))

    def test_what_is_handed_out_is_new(self):
        replica = Replica(1)
        change = replica.put(ROOT, "a", 1)
        pending = replica.pending
        replica.send().clear()
        self.assertEqual(replica.copy_of(1, 1), message_octets(1, 1, [change]))
        pending.clear()
        replica.put(ROOT, "a", 2)
        self.assertEqual(replica.messages, {(1, 1): [change]})


class AcceptCase(Case):
    def test_a_new_message(self):
        for take in ("accept", "receive"):
            replica = Replica(1)
            changes = [((5, 2), (2, 0), "a", 1), ((6, 2), ROOT, "b", ref((2, 0))), ((6, 3), (2, 0), "a", None)]
            if take == "accept":
                told = replica.accept(2, 3, changes)
            else:
                told = replica.receive(message_octets(2, 3, changes))
            self.assertIs(told, True)
            self.assertEqual(replica.messages, {(2, 3): changes})
            self.assertEqual(replica.state.cells, state_of(changes).cells)
            self.assertEqual(replica.clock, 6)
            self.assertEqual(replica.made, 0)
            self.assertEqual(replica.pending, [])
            self.assertEqual(replica.roots, [ROOT])

    def test_a_message_that_it_has(self):
        replica = Replica(1)
        replica.accept(2, 1, [((5, 2), ROOT, "a", 1)])
        before = picture(replica)
        self.assertIs(replica.accept(2, 1, [((5, 2), ROOT, "a", 1)]), False)
        self.assertIs(replica.receive(message_octets(2, 1, [((5, 2), ROOT, "a", 1)])), False)
        # By sender and number it has the message, whatever it would change.
        self.assertIs(replica.accept(2, 1, [((9, 2), ROOT, "a", 2), ((10, 2), (1, 9), "a", 2)]), False)
        self.assertEqual(picture(replica), before)

    def test_its_own_messages(self):
        replica = Replica(1)
        change = replica.put(ROOT, "a", 1)
        octets = replica.send()
        before = picture(replica)
        self.assertIs(replica.receive(octets), False)
        self.assertIs(replica.accept(1, 1, [change]), False)
        self.assertEqual(picture(replica), before)

    def test_changes_in_their_order(self):
        # Two changes with one stamp: the first one stays.
        replica = Replica(1)
        replica.accept(2, 1, [((5, 2), ROOT, "a", "first"), ((5, 2), ROOT, "a", "second")])
        self.assertEqual(replica.state.value(ROOT, "a"), "first")
        replica.accept(2, 2, [((7, 2), ROOT, "a", "later"), ((6, 2), ROOT, "a", "earlier")])
        self.assertEqual(replica.state.value(ROOT, "a"), "later")

    def test_the_clock(self):
        for own, clocks, expected in (
            (0, [1], 1), (0, [7], 7), (3, [7], 7), (3, [4], 4), (3, [3], 3), (3, [2], 3), (3, [1], 3), (3, [], 3),
            (3, [2, 9, 5], 9), (3, [9, 2], 9), (3, [1, 2], 3), (0, [4294967295], 4294967295),
        ):
            replica = Replica(1)
            for _ in range(own):
                replica.put(ROOT, "a", 1)
            replica.accept(2, 1, [((clock, 2), ROOT, "b", clock % 100) for clock in clocks])
            self.assertEqual(replica.clock, expected, (own, clocks))

    def test_the_clock_also_follows_changes_that_make_no_difference(self):
        replica = Replica(1)
        replica.accept(7, 1, [((9, 7), ROOT, "a", 1)])
        replica.clock = 0
        replica.accept(2, 1, [((9, 2), ROOT, "a", 2)])
        self.assertEqual(replica.clock, 9)
        self.assertEqual(replica.state.value(ROOT, "a"), 1)

    def test_without_changes(self):
        replica = Replica(1)
        self.assertIs(replica.accept(2, 1, []), True)
        self.assertIs(replica.accept(2, 1, []), False)
        self.assertIs(replica.receive(message_octets(2, 2, [])), True)
        self.assertIs(replica.receive(message_octets(2, 2, [])), False)
        self.assertEqual(replica.messages, {(2, 1): [], (2, 2): []})
        self.assertEqual((replica.clock, replica.made, replica.state.cells), (0, 0, {}))

    def test_numbers(self):
        replica = Replica(1)
        for number in (0, 5, 3, 4294967295):
            change = ((number % 1000 + 1, 2), ROOT, "a", number % 1000)
            self.assertIs(replica.receive(message_octets(2, number, [change])), True)
            self.assertIs(replica.accept(2, number, [change]), False)
            self.assertEqual(replica.messages[(2, number)], [change])
        self.assertEqual(len(replica.messages), 4)

    def test_objects_of_this_peer_that_are_set(self):
        for peer in (1, 7):
            replica = Replica(peer)
            replica.accept(2, 1, [((1, 2), (peer, 0), "a", 1)])
            self.assertEqual(replica.made, 1)
            replica.accept(2, 2, [((2, 2), (peer, 9), "a", None), ((3, 2), (peer, 4), "a", 1)])
            self.assertEqual(replica.made, 10)
            replica.accept(2, 3, [((4, 2), (peer, 3), "b", 1)])
            self.assertEqual(replica.made, 10)
            for count in range(12):
                self.assertIs(replica.knows((peer, count)), count < 10)
            self.assertEqual(replica.begin(), (peer, 10))

    def test_objects_of_peer_0_that_are_set(self):
        replica = Replica(0)
        replica.accept(2, 1, [((1, 2), ROOT, "a", 1)])
        self.assertEqual(replica.made, 1)
        replica.accept(2, 2, [((2, 2), (0, 1), "a", 1)])
        self.assertEqual(replica.made, 2)
        replica.accept(2, 3, [((3, 2), (0, 77), "a", None)])
        self.assertEqual(replica.made, 78)
        self.assertEqual(replica.begin(), (0, 78))

    def test_changes_that_make_no_difference_count_too(self):
        replica = Replica(1)
        replica.accept(7, 1, [((9, 7), (1, 4), "a", 1)])
        replica.made = 0
        replica.accept(2, 1, [((8, 2), (1, 4), "a", 2)])
        self.assertEqual(replica.made, 5)

    def test_objects_of_others_and_objects_referred_to_do_not_count(self):
        replica = Replica(1)
        replica.accept(2, 1, [((1, 2), (2, 9), "a", ref((1, 6))), ((2, 2), (0, 9), "a", ref((1, 7)))])
        self.assertEqual(replica.made, 0)
        self.assertIs(replica.knows((1, 6)), True)
        self.assertIs(replica.knows((1, 5)), False)
        self.assertEqual(replica.begin(), (1, 0))

    def test_pending_changes_stay(self):
        replica = Replica(1)
        change = replica.put(ROOT, "a", 1)
        replica.accept(2, 1, [((9, 2), ROOT, "a", 2)])
        self.assertEqual(replica.pending, [change])
        self.assertEqual(read_message(replica.send()), (1, 1, [change]))

    def test_damaged_octets(self):
        replica = Replica(1)
        replica.put(ROOT, "a", 1)
        before = picture(replica)
        octets = message_octets(2, 1, [((9, 2), (1, 5), "a", 2), ((9, 3), ROOT, "b", ref((2, 2)))])
        for place in range(len(octets)):
            damaged = octets[:place] + [(octets[place] + 1) % 256] + octets[place + 1:]
            for wrong in (damaged, octets[:place]):
                with self.assertRaises(CodeError):
                    replica.receive(wrong)
                self.assertEqual(picture(replica), before)
        with self.assertRaises(CodeError) as caught:
            replica.receive(octets + [0])
        self.assertEqual(caught.exception.place, len(octets))
        # The check sum is right, but a value is not: the changes ahead of it are not taken in, either.
        wrong = octets[:-2 - 5 - 1] + [4] + octets[-2 - 5:-2]
        with self.assertRaises(CodeError) as caught:
            replica.receive(wrong + check_of(wrong))
        self.assertEqual(caught.exception.place, len(octets) - 8)
        self.assertEqual(picture(replica), before)
        self.assertIs(replica.receive(octets), True)

    def test_what_is_handed_in_stays_as_it_is(self):
        replica = Replica(1)
        changes = [((5, 2), ROOT, "a", 1)]
        octets = message_octets(2, 2, changes)
        replica.accept(2, 1, changes)
        replica.receive(octets)
        self.assertEqual(changes, [((5, 2), ROOT, "a", 1)])
        self.assertEqual(octets, message_octets(2, 2, changes))
        changes.clear()
        self.assertEqual(replica.messages[(2, 1)], [((5, 2), ROOT, "a", 1)])


class CopyCase(Case):
    def test_own_and_others_messages(self):
        replica = Replica(1)
        own = [replica.put(ROOT, "a", 1), replica.put(ROOT, "b", "x")]
        sent = replica.send()
        theirs = message_octets(2, 7, [((9, 2), ROOT, "a", None)])
        replica.receive(theirs)
        replica.accept(0, 0, [])
        self.assertEqual(replica.copy_of(1, 1), sent)
        self.assertEqual(replica.copy_of(1, 1), message_octets(1, 1, own))
        self.assertEqual(replica.copy_of(2, 7), theirs)
        self.assertEqual(replica.copy_of(0, 0), message_octets(0, 0, []))
        replica.copy_of(2, 7).clear()
        self.assertEqual(replica.copy_of(2, 7), theirs)

    def test_no_such_message(self):
        replica = Replica(1)
        replica.put(ROOT, "a", 1)
        replica.send()
        replica.put(ROOT, "a", 2)
        replica.accept(2, 3, [])
        before = picture(replica)
        for sender, number in ((1, 0), (1, 2), (2, 1), (2, 2), (2, 4), (3, 1), (0, 1), (3, 2)):
            with self.assertRaises(NoSuchMessage) as caught:
                replica.copy_of(sender, number)
            self.assertEqual((caught.exception.sender, caught.exception.number), (sender, number))
        self.assertEqual(picture(replica), before)


class VersionCase(Case):
    def check(self, numbers, count):
        """Check the version of a replica that got messages with these numbers in this order."""
        replica = Replica(1)
        for number in numbers:
            replica.accept(5, number, [])
        self.assertEqual(replica.count(5), count)
        self.assertEqual(replica.version(), [0, 0, 0, 0, 0, count, 0, 0])

    def test_versions(self):
        for numbers, count in (
            ([], 0), ([1], 1), ([2], 0), ([0], 0), ([0, 1], 1), ([1, 2, 3], 3), ([3, 2, 1], 3), ([2, 3], 0), ([1, 3], 1),
            ([1, 3, 2], 3), ([1, 2, 4, 5], 2), ([5, 4, 1, 2], 2), ([1, 1, 2], 2), ([0, 2], 0), ([4294967295, 1], 1),
        ):
            self.check(numbers, count)
        for numbers in itertools.permutations([1, 2, 3, 5]):
            self.check(numbers, 3)

    def test_each_peer(self):
        replica = Replica(3)
        self.assertEqual(replica.version(), [0] * 8)
        for peer in range(8):
            for number in range(1, peer + 1):
                replica.accept(peer, number, [])
        self.assertEqual(replica.version(), list(range(8)))
        self.assertEqual([replica.count(peer) for peer in range(8)], list(range(8)))

    def test_own_messages_count(self):
        replica = Replica(2)
        for count in range(1, 4):
            replica.put(ROOT, "a", count)
            self.assertEqual(replica.count(2), count - 1)
            replica.send()
            self.assertEqual(replica.count(2), count)
        self.assertEqual(replica.version(), [0, 0, 3, 0, 0, 0, 0, 0])

    def test_missing(self):
        replica = Replica(1)
        self.assertEqual(replica.missing(2, 0), [])
        self.assertEqual(replica.missing(2, 3), [1, 2, 3])
        for number in (0, 2, 5, 6):
            replica.accept(2, number, [])
        for number, expected in (
            (0, []), (1, [1]), (2, [1]), (3, [1, 3]), (4, [1, 3, 4]), (5, [1, 3, 4]), (6, [1, 3, 4]), (8, [1, 3, 4, 7, 8]),
        ):
            self.assertEqual(replica.missing(2, number), expected)
        self.assertEqual(replica.missing(1, 2), [1, 2])
        replica.put(ROOT, "a", 1)
        replica.send()
        self.assertEqual(replica.missing(1, 2), [2])

    def test_what_is_handed_out_is_new(self):
        replica = Replica(1)
        replica.version().clear()
        replica.missing(2, 3).clear()
        self.assertEqual(replica.version(), [0] * 8)
        self.assertEqual(replica.missing(2, 3), [1, 2, 3])


class GraphCase(Case):
    def test_from_the_roots_in_their_order(self):
        replica = Replica(1)
        self.assertEqual(replica.graph(), ([0], [[]]))
        one, other, far = replica.begin(), replica.begin(), replica.begin()
        replica.put(one, "n", 1)
        replica.put(other, "n", 2)
        replica.put(ROOT, "z", ref(far))
        self.assertEqual(replica.graph(), ([0], [[("z", ("ref", 1))], []]))
        replica.hold(other)
        replica.hold(one)
        self.assertEqual(replica.graph(), ([0, 1, 2], [[("z", ("ref", 3))], [("n", 2)], [("n", 1)], []]))
        replica.drop(other)
        self.assertEqual(replica.graph(), ([0, 1], [[("z", ("ref", 2))], [("n", 1)], []]))
        replica.put(ROOT, "z", None)
        self.assertEqual(replica.graph(), ([0, 1], [[], [("n", 1)]]))

    def test_nothing_changes(self):
        replica = Replica(1)
        replica.put(ROOT, "a", ref(replica.begin()))
        before = picture(replica)
        graph = replica.graph()
        graph[0].clear()
        graph[1][0].clear()
        self.assertEqual(picture(replica), before)


class TogetherCase(Case):
    def test_the_same_messages_make_equal_states(self):
        chance = random.Random(20)
        for _ in range(60):
            senders = [Replica(peer) for peer in chance.sample(range(8), 3)]
            messages = []
            for _ in range(chance.randrange(1, 25)):
                replica = chance.choice(senders)
                known = [name for name in replica.state.names() + [ROOT] if replica.knows(name)]
                if chance.randrange(3) == 0:
                    known.append(replica.begin())
                value = chance.choice([None, 1, -5, "x", ref(chance.choice(known))])
                before = replica.clock
                change = replica.put(chance.choice(known), chance.choice("ab"), value)
                self.assertEqual(change[0], (before + 1, replica.peer))
                self.assertEqual(replica.state.stamp(change[1], change[2]), change[0])
                if chance.randrange(2):
                    messages.append(replica.send())
                if messages and chance.randrange(2):
                    chance.choice(senders).receive(chance.choice(messages))
            for replica in senders:
                if replica.pending:
                    messages.append(replica.send())
            receivers = [Replica(peer) for peer in range(8)]
            for receiver in receivers + senders:
                rows = messages * chance.randrange(1, 4)
                chance.shuffle(rows)
                for octets in rows:
                    receiver.receive(octets)
            changes = [change for octets in messages for change in read_message(octets)[2]]
            for receiver in receivers + senders:
                self.assertEqual(receiver.state.cells, state_of(changes).cells)
                self.assertEqual(receiver.version(), receivers[0].version())
                self.assertEqual(receiver.messages, receivers[0].messages)
                self.assertEqual(receiver.clock, max(change[0][0] for change in changes))

    def test_pending_changes_belong_to_the_state(self):
        replica = Replica(1)
        replica.accept(2, 1, [((4, 2), ROOT, "a", 1), ((5, 2), ROOT, "b", 1)])
        replica.put(ROOT, "a", 2)
        changes = [change for row in replica.messages.values() for change in row] + replica.pending
        self.assertEqual(replica.state.cells, state_of(changes).cells)


if __name__ == "__main__":
    unittest.main()
