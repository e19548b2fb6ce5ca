"""[22] Ranges: what replicas have, and what they lack of each other's."""

import copy
import itertools
import random
import unittest

from graphtwins.ranges import answer, bring, lacking, numbers_of, ranges_of, told
from graphtwins.replicas import Replica
from graphtwins.values import ROOT
from graphtwins.wire import message_octets, read_message


def replica_with(peer, *messages):
    """A replica that got these messages (sender, number), each with a change of its own."""
    replica = Replica(peer)
    for sender, number in messages:
        replica.accept(sender, number, [change_of(sender, number)])
    return replica


def change_of(sender, number):
    return ((number % 1000 + 1, sender), ROOT, "abcdefgh"[sender], number % 1000)


def eight(**ranges):
    """Eight lists of ranges: p3=[..] tells those of the peer 3."""
    return [ranges.get("p%d" % peer, []) for peer in range(8)]


class RangesCase(unittest.TestCase):
    def test_ranges_of(self):
        for numbers, ranges in (
            ([], []), ([0], [(0, 0)]), ([7], [(7, 7)]), ([1, 2, 3], [(1, 3)]), ([1, 3], [(1, 1), (3, 3)]),
            ([3, 1, 2], [(1, 3)]), ([5, 1, 4, 2, 8], [(1, 2), (4, 5), (8, 8)]), ([2, 2, 2], [(2, 2)]),
            ([1, 2, 2, 1, 3, 1], [(1, 3)]), ([0, 1, 4294967295], [(0, 1), (4294967295, 4294967295)]),
            ([10, 9, 11, 1], [(1, 1), (9, 11)]),
        ):
            self.assertEqual(ranges_of(numbers), ranges)

    def test_numbers_of(self):
        for ranges, numbers in (
            ([], []), ([(0, 0)], [0]), ([(1, 3)], [1, 2, 3]), ([(1, 1), (3, 3)], [1, 3]),
            ([(0, 2), (4, 5), (9, 9)], [0, 1, 2, 4, 5, 9]), ([(4294967294, 4294967295)], [4294967294, 4294967295]),
        ):
            self.assertEqual(numbers_of(ranges), numbers)

    def test_numbers_of_ranges_in_any_order(self):
        self.assertEqual(numbers_of([(4, 5), (0, 1)]), [0, 1, 4, 5])
        self.assertEqual(numbers_of([(1, 3), (2, 4), (1, 1)]), [1, 2, 3, 4])

    def test_all_small_sets(self):
        for many in range(7):
            for numbers in itertools.combinations(range(7), many):
                ranges = ranges_of(list(numbers))
                self.assertEqual(numbers_of(ranges), list(numbers))
                self.assertEqual(ranges, sorted(ranges))
                for (_, last), (first, _) in zip(ranges, ranges[1:]):
                    self.assertGreater(first, last + 1)
                self.assertEqual(ranges_of(list(reversed(numbers)) + list(numbers)), ranges)

    def test_the_kinds_of_the_parts(self):
        self.assertIsInstance(ranges_of([1]), list)
        self.assertIsInstance(ranges_of([1])[0], tuple)
        self.assertIsInstance(numbers_of([(1, 1)]), list)

    def test_arguments_stay_as_they_are(self):
        numbers, ranges = [3, 1, 1], [(1, 2), (5, 5)]
        ranges_of(numbers).clear()
        numbers_of(ranges).clear()
        self.assertEqual((numbers, ranges), ([3, 1, 1], [(1, 2), (5, 5)]))


class ToldCase(unittest.TestCase):
    def test_no_messages(self):
        self.assertEqual(told(Replica(0)), [[], [], [], [], [], [], [], []])

    def test_messages_of_several_peers(self):
        replica = replica_with(1, (0, 2), (7, 1), (0, 1), (7, 3), (7, 4), (3, 0), (3, 5), (0, 9))
        replica.put(ROOT, "a", 1)
        self.assertEqual(told(replica), eight(p0=[(1, 2), (9, 9)], p3=[(0, 0), (5, 5)], p7=[(1, 1), (3, 4)]))
        replica.send()
        self.assertEqual(told(replica)[1], [(1, 1)])

    def test_what_is_handed_out_is_new(self):
        replica = replica_with(1, (0, 2))
        ranges = told(replica)
        ranges[0].clear()
        ranges.clear()
        self.assertEqual(told(replica), eight(p0=[(2, 2)]))


class LackingCase(unittest.TestCase):
    def test_nothing(self):
        some = eight(p0=[(1, 5)], p4=[(0, 0), (7, 9)])
        self.assertEqual(lacking(eight(), eight()), [])
        self.assertEqual(lacking(some, eight()), [])
        self.assertEqual(lacking(some, some), [])
        self.assertEqual(lacking(some, eight(p0=[(2, 3), (5, 5)], p4=[(0, 0), (8, 8)])), [])

    def test_everything(self):
        self.assertEqual(
            lacking(eight(), eight(p0=[(1, 2)], p4=[(0, 0), (7, 8)], p7=[(3, 3)])),
            [(0, 1), (0, 2), (4, 0), (4, 7), (4, 8), (7, 3)],
        )

    def test_messages_of_another_sender_do_not_count(self):
        self.assertEqual(lacking(eight(p1=[(1, 3)]), eight(p2=[(1, 2)])), [(2, 1), (2, 2)])

    def test_parts_of_ranges(self):
        for mine, theirs, numbers in (
            ([(1, 3)], [(1, 5)], [4, 5]), ([(3, 5)], [(1, 5)], [1, 2]), ([(3, 3)], [(1, 5)], [1, 2, 4, 5]),
            ([(2, 2), (4, 4)], [(1, 5)], [1, 3, 5]), ([(1, 1), (5, 5)], [(1, 5)], [2, 3, 4]), ([(0, 9)], [(1, 5)], []),
            ([(0, 2), (4, 9)], [(1, 5)], [3]), ([(1, 5)], [(1, 2), (4, 7)], [6, 7]), ([(2, 4)], [(1, 2), (4, 5)], [1, 5]),
            ([(7, 9)], [(1, 2), (4, 5)], [1, 2, 4, 5]), ([(0, 0)], [(1, 2)], [1, 2]), ([(3, 3)], [(1, 2)], [1, 2]),
            ([(0, 0), (3, 3), (6, 6)], [(1, 2), (4, 5)], [1, 2, 4, 5]), ([(1, 2), (4, 5)], [(0, 6)], [0, 3, 6]),
        ):
            self.assertEqual(lacking(eight(p2=mine), eight(p2=theirs)), [(2, number) for number in numbers])

    def test_against_sets_of_numbers(self):
        chance = random.Random(22)
        for _ in range(500):
            both = [[sorted(chance.sample(range(12), chance.randrange(12))) for _ in range(8)] for _ in range(2)]
            mine, theirs = [[ranges_of(numbers) for numbers in rows] for rows in both]
            expected = [(peer, n) for peer in range(8) for n in both[1][peer] if n not in both[0][peer]]
            self.assertEqual(lacking(mine, theirs), expected)

    def test_what_both_have_can_be_very_much(self):
        most = 4294967295
        self.assertEqual(lacking(eight(p0=[(0, most - 1)]), eight(p0=[(5, most)])), [(0, most)])
        self.assertEqual(lacking(eight(p0=[(0, 7), (9, most)]), eight(p0=[(0, most)])), [(0, 8)])
        self.assertEqual(lacking(eight(p0=[(0, most)]), eight(p0=[(0, 7), (9, most)])), [])

    def test_arguments_stay_as_they_are(self):
        mine, theirs = eight(p0=[(2, 2)]), eight(p0=[(1, 3)])
        before = copy.deepcopy((mine, theirs))
        lacking(mine, theirs).clear()
        self.assertEqual((mine, theirs), before)


class AnswerCase(unittest.TestCase):
    def test_just_these_messages_in_this_order(self):
        replica = replica_with(1, (5, 4), (0, 2), (5, 0), (0, 1), (5, 2), (2, 1))
        replica.put(ROOT, "z", 5)
        replica.send()
        theirs = eight(p0=[(1, 1), (3, 3)], p2=[(1, 1)], p5=[(1, 2)])
        rows = answer(replica, theirs)
        self.assertEqual([read_message(octets)[:2] for octets in rows], [(0, 2), (1, 1), (5, 0), (5, 4)])
        self.assertEqual(rows, [replica.copy_of(*key) for key in [(0, 2), (1, 1), (5, 0), (5, 4)]])
        self.assertEqual(rows[0], message_octets(0, 2, [change_of(0, 2)]))
        self.assertEqual([read_message(octets)[:2] for octets in rows], lacking(theirs, told(replica)))

    def test_nothing_and_everything(self):
        replica = replica_with(1, (0, 2), (3, 0))
        self.assertEqual(answer(replica, told(replica)), [])
        self.assertEqual(answer(Replica(2), told(replica)), [])
        self.assertEqual(answer(replica, eight()), [replica.copy_of(0, 2), replica.copy_of(3, 0)])

    def test_nothing_is_changed_and_the_lists_are_new(self):
        replica = replica_with(1, (0, 2))
        theirs = eight(p0=[(1, 1)])
        rows = answer(replica, theirs)
        rows[0].clear()
        rows.clear()
        self.assertEqual(theirs, eight(p0=[(1, 1)]))
        self.assertEqual(answer(replica, theirs), [message_octets(0, 2, [change_of(0, 2)])])


class BringCase(unittest.TestCase):
    def test_what_is_lacking(self):
        one = replica_with(1, (0, 1), (2, 5), (3, 0))
        other = replica_with(2, (0, 1), (0, 2), (2, 5), (2, 7), (3, 0), (4, 0), (4, 9))
        theirs = copy.deepcopy((other.messages, other.state.cells, other.clock, other.made))
        self.assertEqual(bring(one, other), 4)
        self.assertEqual(one.messages, other.messages)
        self.assertEqual(one.state.cells, other.state.cells)
        self.assertEqual(one.clock, 10)
        self.assertEqual(lacking(told(one), told(other)), [])
        self.assertEqual(bring(one, other), 0)
        self.assertEqual((other.messages, other.state.cells, other.clock, other.made), theirs)

    def test_messages_that_the_other_one_lacks_stay(self):
        one, other = replica_with(1, (0, 1), (5, 3)), replica_with(2, (0, 2))
        self.assertEqual(bring(one, other), 1)
        self.assertEqual(sorted(one.messages), [(0, 1), (0, 2), (5, 3)])
        self.assertEqual(sorted(other.messages), [(0, 2)])
        self.assertEqual(bring(other, one), 2)
        self.assertEqual(one.messages, other.messages)

    def test_nothing_to_bring(self):
        one = replica_with(1, (0, 1))
        self.assertEqual(bring(one, Replica(2)), 0)
        self.assertEqual(bring(one, one), 0)
        self.assertEqual(bring(Replica(2), Replica(3)), 0)
        self.assertEqual(sorted(one.messages), [(0, 1)])

    def test_pending_changes_are_not_brought(self):
        one, other = Replica(1), Replica(2)
        other.put(ROOT, "a", 1)
        self.assertEqual(bring(one, other), 0)
        other.send()
        self.assertEqual(bring(one, other), 1)
        self.assertEqual(one.state.value(ROOT, "a"), 1)

    def test_messages_are_taken_in_as_if_they_came(self):
        one, other = Replica(1), Replica(2)
        other.accept(3, 2, [((8, 3), (1, 6), "a", 5)])
        bring(one, other)
        self.assertEqual((one.clock, one.made), (8, 7))
        one.messages[(3, 2)].clear()
        self.assertEqual(other.messages[(3, 2)], [((8, 3), (1, 6), "a", 5)])

    def test_by_lot(self):
        chance = random.Random(23)
        for _ in range(200):
            rows = [
                [(chance.randrange(8), chance.randrange(6)) for _ in range(chance.randrange(20))] for _ in range(2)
            ]
            one, other = replica_with(1, *rows[0]), replica_with(2, *rows[1])
            self.assertEqual(bring(one, other), len(set(rows[1]) - set(rows[0])))
            self.assertEqual(set(one.messages), set(rows[0]) | set(rows[1]))
            self.assertEqual(lacking(told(one), told(other)), [])
            self.assertEqual(bring(one, other), 0)
            bring(other, one)
            self.assertEqual(one.state.cells, other.state.cells)


if __name__ == "__main__":
    unittest.main()
