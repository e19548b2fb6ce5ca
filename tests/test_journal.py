"""[32] Records; [33] devices and journaled replicas; [34] replicas opened anew."""

import copy
import random
import unittest

from graphtwins.errors import BadPeer, CodeError, PowerCut, ShutError
from graphtwins.journal import Device, JournaledReplica, opened, record_of, recovered
from graphtwins.replicas import Replica
from graphtwins.states import State, is_equal
from graphtwins.values import ROOT
from graphtwins.wire import check_of, message_octets, read_message

PLENTY = 100000


def change_of(clock, peer, value=5):
    return ((clock, peer), ROOT, "a", value)


def message(sender, number, many=1):
    """The octets of a message with so many changes."""
    return message_octets(sender, number, [change_of(10 * number % 100000 + at, sender, at) for at in range(many)])


def replica_picture(replica):
    return copy.deepcopy((
        replica.peer, replica.clock, replica.made, list(replica.state.cells.items()), replica.roots,
        replica.pending, list(replica.messages.items()),
    ))


def picture(journaled):
    return (replica_picture(journaled.replica), list(journaled.device.octets), journaled.device.power, journaled.shut)


def journaled_at(peer, power=PLENTY, octets=()):
    return JournaledReplica(Replica(peer), Device(list(octets), power))


class RecordCase(unittest.TestCase):
    def test_a_short_message(self):
        octets = message(1, 1)
        self.assertLess(len(octets), 256)
        self.assertEqual(record_of(octets), [0, 0, len(octets)] + octets + [170])

    def test_beyond_255_octets(self):
        octets = message(1, 1, 40)
        self.assertGreater(len(octets), 512)
        self.assertEqual(record_of(octets), [0, len(octets) // 256, len(octets) % 256] + octets + [170])

    def test_beyond_65535_octets(self):
        octets = message(1, 1, 5000)
        self.assertGreater(len(octets), 65536)
        self.assertEqual(
            record_of(octets), [1, len(octets) // 256 % 256, len(octets) % 256] + octets + [170],
        )
        self.assertEqual(recovered(record_of(octets)), ([read_message(octets)], len(octets) + 4))

    def test_exactly_256_octets(self):
        octets = list(range(256))
        self.assertEqual(record_of(octets), [0, 1, 0] + octets + [170])

    def test_the_octets_stay_as_they_are(self):
        octets = message(1, 1)
        before = list(octets)
        record_of(octets).clear()
        self.assertEqual(octets, before)


class RecoveredCase(unittest.TestCase):
    def setUp(self):
        self.octets = [message(1, 1), message_octets(2, 9, []), message(7, 4294967295, 40)]
        self.messages = [read_message(octets) for octets in self.octets]
        self.records = [record_of(octets) for octets in self.octets]
        self.all = self.records[0] + self.records[1] + self.records[2]

    def test_no_octets(self):
        self.assertEqual(recovered([]), ([], 0))

    def test_one_record(self):
        for octets, told in zip(self.records, self.messages):
            self.assertEqual(recovered(octets), ([told], len(octets)))

    def test_several_records(self):
        self.assertEqual(recovered(self.all), (self.messages, len(self.all)))
        self.assertEqual(recovered(self.all * 2), (self.messages * 2, 2 * len(self.all)))

    def test_kinds_of_the_parts(self):
        messages, taken = recovered(self.all)
        self.assertIsInstance(recovered(self.all), tuple)
        self.assertIsInstance(messages, list)
        self.assertIsInstance(messages[0], tuple)
        self.assertIsInstance(taken, int)

    def test_cut_at_each_place(self):
        ends = [0, len(self.records[0]), len(self.records[0] + self.records[1]), len(self.all)]
        for length in range(len(self.all) + 1):
            whole = max(at for at in range(4) if ends[at] <= length)
            self.assertEqual(recovered(self.all[:length]), (self.messages[:whole], ends[whole]))

    def test_another_last_octet(self):
        for octet in (0, 1, 169, 171, 255):
            octets = self.records[0] + self.records[1][:-1] + [octet] + self.records[2]
            self.assertEqual(recovered(octets), (self.messages[:1], len(self.records[0])))

    def test_another_length(self):
        for place in range(3):
            for difference in (1, 2, 255):
                wrong = list(self.records[1])
                wrong[place] = (wrong[place] + difference) % 256
                octets = self.records[0] + wrong + self.records[2]
                self.assertEqual(recovered(octets), (self.messages[:1], len(self.records[0])))

    def test_a_length_of_nothing(self):
        self.assertEqual(recovered([0, 0, 0, 170]), ([], 0))
        octets = self.records[0] + [0, 0, 0, 170] + self.records[1]
        self.assertEqual(recovered(octets), (self.messages[:1], len(self.records[0])))

    def test_one_octet_of_the_message_exchanged(self):
        for place in range(3, len(self.records[0]) - 1):
            for difference in (1, 128, 255):
                wrong = list(self.records[0])
                wrong[place] = (wrong[place] + difference) % 256
                self.assertEqual(recovered(wrong), ([], 0))
                octets = self.records[1] + wrong + self.records[2]
                self.assertEqual(recovered(octets), (self.messages[1:2], len(self.records[1])))

    def test_octets_of_no_record_behind(self):
        for rest in ([0], [170], [0, 0], [0, 0, 1], [255] * 20, [0, 0, 9] + [9] * 9 + [170]):
            self.assertEqual(recovered(self.all + rest), (self.messages, len(self.all)))

    def test_octets_of_no_message_between_two_records(self):
        no_message = record_of(self.octets[0] + [0])
        octets = self.records[0] + no_message + self.records[1]
        self.assertEqual(recovered(octets), (self.messages[:1], len(self.records[0])))

    def test_a_length_that_leaves_the_last_octet_out(self):
        # All octets but the last one are there; what stands there is no octet 170 by chance.
        octets = message_octets(2, 9, [])
        self.assertEqual(recovered([0, 0, len(octets)] + octets), ([], 0))

    def test_a_message_that_holds_the_end_octet(self):
        octets = message_octets(2, 170, [((170, 1), (1, 170), "a", ("ref", (0, 170)))])
        self.assertEqual(recovered(record_of(octets)), ([read_message(octets)], len(octets) + 4))

    def test_the_octets_stay_as_they_are(self):
        octets = self.all + [1, 2]
        before = list(octets)
        recovered(octets)[0].clear()
        self.assertEqual(octets, before)


class DeviceCase(unittest.TestCase):
    def test_fields(self):
        device = Device([1, 2], 3)
        self.assertEqual((device.octets, device.power), ([1, 2], 3))

    def test_until_the_power_is_gone(self):
        device = Device([], 3)
        for octet in (7, 0, 255):
            device.append(octet)
        self.assertEqual((device.octets, device.power), ([7, 0, 255], 0))
        self.check_cut(device, 3)

    def check_cut(self, device, written):
        for _ in range(3):
            before = list(device.octets)
            with self.assertRaises(PowerCut) as caught:
                device.append(9)
            self.assertEqual(caught.exception.written, written)
            self.assertEqual((device.octets, device.power), (before, 0))

    def test_power_is_counted_down(self):
        device = Device([5], 2)
        device.append(1)
        self.assertEqual((device.octets, device.power), ([5, 1], 1))

    def test_without_power_at_first(self):
        self.check_cut(Device([], 0), 0)
        self.check_cut(Device([1, 2, 3, 4], 0), 4)

    def test_with_octets_on_it_at_first(self):
        device = Device([1, 2, 3, 4], 2)
        device.append(5)
        device.append(6)
        self.check_cut(device, 6)

    def test_the_octets_handed_in_stay_as_they_are(self):
        octets = [1, 2]
        device = Device(octets, 5)
        device.append(3)
        self.assertEqual(octets, [1, 2])
        octets.append(9)
        self.assertEqual(device.octets, [1, 2, 3])


class SendCase(unittest.TestCase):
    def test_fields(self):
        replica, device = Replica(2), Device([], 5)
        journaled = JournaledReplica(replica, device)
        self.assertIs(journaled.replica, replica)
        self.assertIs(journaled.device, device)
        self.assertIs(journaled.shut, False)

    def test_without_pending_changes(self):
        for power in (0, PLENTY):
            journaled = journaled_at(2, power, [9])
            before = picture(journaled)
            self.assertIsNone(journaled.send())
            self.assertEqual(picture(journaled), before)

    def test_the_message_is_returned_and_written(self):
        journaled = journaled_at(2)
        change = journaled.replica.put(ROOT, "a", 7)
        octets = journaled.send()
        self.assertEqual(octets, message_octets(2, 1, [change]))
        self.assertEqual(journaled.device.octets, record_of(octets))
        self.assertEqual(journaled.device.power, PLENTY - len(octets) - 4)
        self.assertEqual((journaled.replica.pending, journaled.replica.messages), ([], {(2, 1): [change]}))
        self.assertIs(journaled.shut, False)

    def test_behind_what_is_on_the_device(self):
        journaled = journaled_at(2, PLENTY, record_of(message(1, 1)))
        journaled.replica.put(ROOT, "a", 7)
        one = journaled.send()
        journaled.replica.put(ROOT, "a", 8)
        other = journaled.send()
        self.assertEqual(journaled.device.octets, record_of(message(1, 1)) + record_of(one) + record_of(other))

    def test_what_is_returned_is_new(self):
        journaled = journaled_at(2)
        journaled.replica.put(ROOT, "a", 7)
        octets = journaled.send()
        record = record_of(octets)
        octets.clear()
        self.assertEqual(journaled.device.octets, record)


class ReceiveCase(unittest.TestCase):
    def test_new_messages(self):
        journaled = journaled_at(2)
        for octets in (message(1, 1), message(1, 3, 30), message(2, 7), message_octets(0, 0, [])):
            before = list(journaled.device.octets)
            self.assertIs(journaled.receive(octets), True)
            self.assertEqual(journaled.device.octets, before + record_of(octets))
        self.assertEqual(list(journaled.replica.messages), [(1, 1), (1, 3), (2, 7), (0, 0)])

    def test_known_messages(self):
        journaled = journaled_at(2)
        journaled.receive(message(1, 1))
        journaled.replica.put(ROOT, "a", 1)
        own = journaled.send()
        before = picture(journaled)
        self.assertIs(journaled.receive(message(1, 1)), False)
        self.assertIs(journaled.receive(own), False)
        self.assertEqual(picture(journaled), before)

    def test_known_messages_without_power(self):
        journaled = journaled_at(2, len(message(1, 1)) + 4)
        journaled.receive(message(1, 1))
        self.assertEqual(journaled.device.power, 0)
        before = picture(journaled)
        self.assertIs(journaled.receive(message(1, 1)), False)
        self.assertEqual(picture(journaled), before)

    def test_messages_that_the_replica_got_past_the_journal(self):
        journaled = journaled_at(2)
        journaled.replica.receive(message(1, 1))
        self.assertIs(journaled.receive(message(1, 1)), False)
        self.assertEqual(journaled.device.octets, [])

    def test_damaged_messages(self):
        for power in (0, PLENTY):
            journaled = journaled_at(2, power)
            before = picture(journaled)
            whole = message(1, 1)
            for octets, place in (([], 0), ([8], 0), (whole[:-1], len(whole) - 1), (whole + [0], len(whole))):
                with self.assertRaises(CodeError) as caught:
                    journaled.receive(octets)
                self.assertEqual(caught.exception.place, place)
                self.assertEqual(picture(journaled), before)

    def test_the_message_stays_as_it_is(self):
        octets = message(1, 1)
        before = list(octets)
        journaled_at(2).receive(octets)
        self.assertEqual(octets, before)


class PowerCase(unittest.TestCase):
    def check_shut(self, journaled):
        """See that every later sending and getting raises ShutError, and changes nothing."""
        self.assertIs(journaled.shut, True)
        before = picture(journaled)
        calls = [
            journaled.send, lambda: journaled.receive(message(6, 6)), lambda: journaled.receive(message(1, 1)),
            lambda: journaled.receive([]),
        ]
        for call in calls:
            with self.assertRaises(ShutError):
                call()
            self.assertEqual(picture(journaled), before)
        change = journaled.replica.put(ROOT, "z", 1)
        before = picture(journaled)
        with self.assertRaises(ShutError):
            journaled.send()
        self.assertEqual(picture(journaled), before)
        self.assertEqual(journaled.replica.pending[-1], change)

    def test_at_each_octet_of_a_record_that_is_sent(self):
        twin = Replica(2)
        changes = [twin.put(ROOT, "a", 7), twin.put(ROOT, "b", "x")]
        record = record_of(twin.send())
        for power in range(len(record)):
            journaled = journaled_at(2, power, [3, 4])
            journaled.replica.put(ROOT, "a", 7)
            journaled.replica.put(ROOT, "b", "x")
            with self.assertRaises(PowerCut) as caught:
                journaled.send()
            self.assertEqual(caught.exception.written, 2 + power)
            self.assertEqual(journaled.device.octets, [3, 4] + record[:power])
            self.assertEqual(replica_picture(journaled.replica), replica_picture(twin))
            self.assertEqual(journaled.replica.messages, {(2, 1): changes})
            self.check_shut(journaled)

    def test_at_each_octet_of_a_record_that_is_received(self):
        twin = Replica(2)
        twin.receive(message(1, 1, 12))
        record = record_of(message(1, 1, 12))
        for power in range(len(record)):
            journaled = journaled_at(2, power)
            with self.assertRaises(PowerCut) as caught:
                journaled.receive(message(1, 1, 12))
            self.assertEqual(caught.exception.written, power)
            self.assertEqual(journaled.device.octets, record[:power])
            self.assertEqual(replica_picture(journaled.replica), replica_picture(twin))
            self.check_shut(journaled)

    def test_behind_the_last_octet(self):
        record = record_of(message(1, 1))
        journaled = journaled_at(2, len(record))
        self.assertIs(journaled.receive(message(1, 1)), True)
        self.assertIs(journaled.shut, False)
        self.assertIsNone(journaled.send())
        with self.assertRaises(PowerCut) as caught:
            journaled.receive(message(1, 2))
        self.assertEqual(caught.exception.written, len(record))
        self.check_shut(journaled)


class OpenedCase(unittest.TestCase):
    def test_without_octets(self):
        journaled = opened(2, [], 7)
        self.assertIsInstance(journaled, JournaledReplica)
        self.assertIsInstance(journaled.replica, Replica)
        self.assertIsInstance(journaled.device, Device)
        self.assertEqual(picture(journaled), (replica_picture(Replica(2)), [], 7, False))

    def test_messages_state_and_clock(self):
        octets = record_of(message(1, 3, 2)) + record_of(message(2, 1)) + record_of(message(7, 1, 3))
        journaled = opened(2, octets, PLENTY)
        replica = journaled.replica
        self.assertEqual(list(replica.messages.items()), [
            ((1, 3), [change_of(30, 1, 0), change_of(31, 1, 1)]), ((2, 1), [change_of(10, 2, 0)]),
            ((7, 1), [change_of(10, 7, 0), change_of(11, 7, 1), change_of(12, 7, 2)]),
        ])
        self.assertEqual((replica.peer, replica.clock, replica.made, replica.pending), (2, 31, 0, []))
        self.assertEqual(replica.roots, [ROOT])
        self.assertEqual(replica.state.cells, {(ROOT, "a"): ((31, 1), 1)})
        self.assertEqual((journaled.device.octets, journaled.device.power, journaled.shut), (octets, PLENTY, False))

    def test_the_rest_is_cut_off(self):
        first, second = record_of(message(1, 1)), record_of(message(1, 2))
        for length in range(len(second)):
            octets = first + second[:length]
            journaled = opened(2, octets, PLENTY)
            self.assertEqual(journaled.device.octets, first)
            self.assertEqual(octets, first + second[:length])
            self.assertIs(journaled.receive(message(1, 2)), True)
            self.assertEqual(journaled.device.octets, first + second)

    def test_nothing_is_written_by_opening(self):
        octets = record_of(message(1, 1)) + [1, 2, 3]
        journaled = opened(2, octets, 0)
        self.assertEqual((journaled.device.octets, journaled.device.power), (octets[:-3], 0))

    def test_octets_handed_in_stay_as_they_are(self):
        octets = record_of(message(1, 1)) + [1]
        before = list(octets)
        journaled = opened(2, octets, PLENTY)
        journaled.receive(message(1, 2))
        self.assertEqual(octets, before)

    def test_a_peer_that_there_is_not(self):
        for peer in (-1, 8):
            with self.assertRaises(BadPeer) as caught:
                opened(peer, [], 5)
            self.assertEqual(caught.exception.peer, peer)

    def check_next(self, journaled, number):
        change = journaled.replica.put(ROOT, "n", number)
        self.assertEqual(journaled.send(), message_octets(2, number, [change]))
        self.assertEqual(change[0], (journaled.replica.clock, 2))

    def test_the_next_own_message(self):
        self.check_next(opened(2, [], PLENTY), 1)
        self.check_next(opened(2, record_of(message(1, 5)), PLENTY), 1)
        octets = record_of(message(2, 1)) + record_of(message(2, 2))
        self.check_next(opened(2, octets, PLENTY), 3)
        self.check_next(opened(2, octets + record_of(message(2, 3))[:-1], PLENTY), 3)

    def test_the_next_one_where_own_messages_came_back(self):
        journaled = opened(2, [], PLENTY)
        journaled.receive(message(2, 2))
        journaled.receive(message(2, 1))
        self.check_next(journaled, 3)
        # With a gap: the number behind the last one is used up by none.
        journaled = opened(2, [], PLENTY)
        journaled.receive(message(2, 4))
        self.check_next(journaled, 5)
        again = opened(2, journaled.device.octets, PLENTY)
        self.check_next(again, 6)

    def test_the_next_clock_and_the_next_object(self):
        changes = [((5, 2), (2, 3), "a", 1), ((9, 2), ROOT, "a", ("ref", (2, 3)))]
        journaled = opened(2, record_of(message_octets(2, 1, changes)), PLENTY)
        self.assertEqual(journaled.replica.begin(), (2, 4))
        self.assertEqual(journaled.replica.put((2, 4), "a", 1), ((10, 2), (2, 4), "a", 1))

    def test_the_octets_of_another_peer(self):
        journaled = opened(5, record_of(message(2, 1)), PLENTY)
        self.assertEqual((journaled.replica.peer, list(journaled.replica.messages)), (5, [(2, 1)]))

    def test_a_message_that_is_there_twice(self):
        octets = record_of(message(2, 1)) * 2
        journaled = opened(2, octets, PLENTY)
        self.assertEqual(list(journaled.replica.messages), [(2, 1)])
        self.assertEqual(journaled.device.octets, octets)

    def test_several_openings_one_behind_the_other(self):
        chance = random.Random(34)
        for _ in range(150):
            octets, told, number = [], [], 0
            for _ in range(6):
                journaled = opened(2, octets, chance.randrange(120))
                self.check_opened(journaled, told)
                self.assertEqual(recovered(octets)[1], len(journaled.device.octets))
                for _ in range(chance.randrange(8)):
                    number += 1
                    if not self.one_step(chance, journaled, told, number):
                        break
                octets = list(journaled.device.octets)
                self.assertEqual([message[:2] for message in recovered(octets)[0]], [message[:2] for message in told])
                self.assertEqual(recovered(octets)[0], told)

    def one_step(self, chance, journaled, told, number):
        """Send or get something; put down what was told as sent or as new. Return whether there is power left."""
        try:
            if chance.randrange(2):
                journaled.replica.put(ROOT, chance.choice("ab"), number)
                told.append(read_message(journaled.send()))
            else:
                octets = chance.choice([message(1, number), message(4, number, 2), message(1, 1)])
                if journaled.receive(octets):
                    told.append(read_message(octets))
        except PowerCut as error:
            self.assertEqual(error.written, len(journaled.device.octets))
            self.assertEqual(journaled.device.power, 0)
            self.assertIs(journaled.shut, True)
            return False
        return True

    def check_opened(self, journaled, told):
        replica, state = journaled.replica, State()
        for _, _, changes in told:
            for change in changes:
                state.take(change)
        self.assertEqual([(sender, number, changes) for (sender, number), changes in replica.messages.items()], told)
        self.assertTrue(is_equal(replica.state, state))
        self.assertEqual(replica.pending, [])
        self.assertEqual(replica.clock, max([change[0][0] for told_one in told for change in told_one[2]], default=0))
        own = [number for sender, number, _ in told if sender == 2]
        twin = copy.deepcopy(replica)
        twin.put(ROOT, "c", 1)
        self.assertEqual(read_message(twin.send())[1], max(own, default=0) + 1)


class CheckSumCase(unittest.TestCase):
    def test_records_of_octets_with_a_right_check_sum_alone(self):
        # The check sum is right, but these are no octets of a message: the sender is 8.
        octets = [8, 0, 0, 0, 1, 0, 0]
        octets = octets + check_of(octets)
        self.assertEqual(recovered(record_of(octets)), ([], 0))


if __name__ == "__main__":
    unittest.main()
