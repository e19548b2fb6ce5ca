"""[21] Channels."""

import copy
import unittest

from graphtwins.channels import Channel
from graphtwins.errors import NothingThere


def channel_of(*messages):
    channel = Channel()
    for message in messages:
        channel.put(message)
    return channel


# The calls that ask for one place, and their other arguments.
CALLS = {"lose": [], "double": [], "take": [], "damage": [0, 9], "cut": [1]}


class ChannelCase(unittest.TestCase):
    def setUp(self):
        self.channel = channel_of([1, 2, 3], [4, 5], [6])

    def assert_nothing_there(self, place, call, *arguments):
        before = copy.deepcopy(self.channel.under_way)
        with self.assertRaises(NothingThere) as caught:
            call(*arguments)
        self.assertEqual(caught.exception.place, place)
        self.assertEqual(self.channel.under_way, before)

    def test_a_new_channel(self):
        self.assertEqual(Channel().under_way, [])
        self.assertIsInstance(Channel().under_way, list)
        self.assertIsNot(Channel().under_way, Channel().under_way)

    def test_put(self):
        channel = Channel()
        self.assertEqual(channel.put([1, 2]), 1)
        self.assertEqual(channel.put([]), 2)
        self.assertEqual(channel.put([1, 2]), 3)
        self.assertEqual(channel.under_way, [[1, 2], [], [1, 2]])
        channel.take(0)
        self.assertEqual(channel.put([9]), 3)
        self.assertEqual(channel.under_way, [[], [1, 2], [9]])

    def test_lose(self):
        self.channel.lose(1)
        self.assertEqual(self.channel.under_way, [[1, 2, 3], [6]])
        self.channel.lose(1)
        self.channel.lose(0)
        self.assertEqual(self.channel.under_way, [])

    def test_double(self):
        self.channel.double(1)
        self.assertEqual(self.channel.under_way, [[1, 2, 3], [4, 5], [6], [4, 5]])
        self.channel.double(3)
        self.channel.double(0)
        self.assertEqual(self.channel.under_way, [[1, 2, 3], [4, 5], [6], [4, 5], [4, 5], [1, 2, 3]])

    def test_exchange(self):
        self.channel.exchange(0, 2)
        self.assertEqual(self.channel.under_way, [[6], [4, 5], [1, 2, 3]])
        self.channel.exchange(1, 0)
        self.assertEqual(self.channel.under_way, [[4, 5], [6], [1, 2, 3]])

    def test_exchange_with_itself(self):
        for place in range(3):
            self.channel.exchange(place, place)
            self.assertEqual(self.channel.under_way, [[1, 2, 3], [4, 5], [6]])

    def test_damage(self):
        self.assertIs(self.channel.damage(0, 1, 9), True)
        self.assertEqual(self.channel.under_way, [[1, 9, 3], [4, 5], [6]])
        self.assertIs(self.channel.damage(0, 0, 0), True)
        self.assertIs(self.channel.damage(0, 2, 255), True)
        self.assertIs(self.channel.damage(2, 0, 7), True)
        self.assertEqual(self.channel.under_way, [[0, 9, 255], [4, 5], [7]])

    def test_damage_by_the_same_octet(self):
        for place, spot, octet in ((0, 0, 1), (0, 1, 2), (0, 2, 3), (2, 0, 6)):
            self.assertIs(self.channel.damage(place, spot, octet), False)
        self.assertEqual(self.channel.under_way, [[1, 2, 3], [4, 5], [6]])

    def test_damage_where_there_is_no_spot(self):
        for place, spot in ((0, 3), (0, 4), (1, 2), (2, 1), (2, 100), (0, -1), (0, -3), (2, -1)):
            self.assertIs(self.channel.damage(place, spot, 9), False)
        self.assertEqual(self.channel.under_way, [[1, 2, 3], [4, 5], [6]])
        self.assertIs(channel_of([]).damage(0, 0, 9), False)

    def test_cut(self):
        self.channel.cut(0, 2)
        self.assertEqual(self.channel.under_way, [[1, 2], [4, 5], [6]])
        self.channel.cut(0, 1)
        self.channel.cut(1, 0)
        self.assertEqual(self.channel.under_way, [[1], [], [6]])

    def test_cut_to_a_length_that_is_not_smaller(self):
        for place, length in ((0, 3), (0, 4), (0, 1000), (1, 2), (2, 1), (2, 9)):
            self.channel.cut(place, length)
        self.assertEqual(self.channel.under_way, [[1, 2, 3], [4, 5], [6]])

    def test_take(self):
        self.assertEqual(self.channel.take(1), [4, 5])
        self.assertEqual(self.channel.under_way, [[1, 2, 3], [6]])
        self.assertEqual(self.channel.take(1), [6])
        self.assertEqual(self.channel.take(0), [1, 2, 3])
        self.assertEqual(self.channel.under_way, [])

    def test_nothing_there(self):
        for name, more in CALLS.items():
            for place in (3, 4, 100, -1, -2, -3, -4, -100):
                self.assert_nothing_there(place, getattr(self.channel, name), place, *more)

    def test_nothing_there_in_a_new_channel(self):
        self.channel = Channel()
        for name, more in CALLS.items():
            for place in (0, 1, -1):
                self.assert_nothing_there(place, getattr(self.channel, name), place, *more)
        for place, other in ((0, 0), (0, 1), (1, 0), (-1, 0), (0, -1)):
            self.assert_nothing_there(place, self.channel.exchange, place, other)

    def test_nothing_there_of_exchange(self):
        for place, other, wrong in (
            (3, 0, 3), (0, 3, 3), (-1, 2, -1), (2, -1, -1), (3, 4, 3), (4, 3, 4), (3, -1, 3), (-1, 3, -1), (-3, 0, -3),
            (3, 3, 3), (-1, -1, -1), (-2, -1, -2),
        ):
            self.assert_nothing_there(wrong, self.channel.exchange, place, other)

    def test_nothing_there_counts_ahead_of_no_spot(self):
        self.assert_nothing_there(3, self.channel.damage, 3, 50, 1)
        self.assert_nothing_there(-1, self.channel.damage, -1, -1, 1)

    def test_faults_leave_the_other_copy(self):
        self.channel.double(0)
        self.channel.damage(0, 1, 9)
        self.assertEqual(self.channel.under_way[3], [1, 2, 3])
        self.channel.cut(0, 1)
        self.assertEqual(self.channel.under_way[3], [1, 2, 3])
        self.channel.damage(3, 0, 8)
        self.channel.cut(3, 2)
        self.assertEqual(self.channel.under_way, [[1], [4, 5], [6], [8, 2]])

    def test_exchanged_copies_stay_apart(self):
        self.channel.double(0)
        self.channel.exchange(0, 3)
        self.channel.exchange(1, 1)
        self.channel.damage(0, 0, 7)
        self.channel.damage(1, 0, 8)
        self.assertEqual(self.channel.under_way, [[7, 2, 3], [8, 5], [6], [1, 2, 3]])

    def test_lists_that_were_handed_in_stay_as_they_are(self):
        message = [1, 2, 3]
        channel = channel_of(message, message)
        channel.damage(0, 0, 9)
        channel.cut(1, 1)
        channel.take(0).append(4)
        self.assertEqual(message, [1, 2, 3])
        message.clear()
        self.assertEqual(channel.under_way, [[1]])

    def test_what_was_taken_out_is_new(self):
        self.channel.double(0)
        taken = self.channel.take(0)
        taken.clear()
        self.assertEqual(self.channel.under_way, [[4, 5], [6], [1, 2, 3]])


if __name__ == "__main__":
    unittest.main()
