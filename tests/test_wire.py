"""[14] [15] [16] Octets of messages."""

import copy
import random
import unittest

from graphtwins.errors import CodeError
from graphtwins.wire import check_of, message_octets, read_message

GREATEST = 4294967295

# Messages with the octets that [14] and [15] give them, written by hand.
WRITTEN = [
    ((0, 0, []), [0, 0, 0, 0, 0, 0, 0, 0, 0]),
    ((1, 2, []), [1, 0, 0, 0, 2, 0, 0, 13, 3]),
    (
        (0, 1, [((1, 0), (0, 0), "a", None)]),
        [0, 0, 0, 0, 1, 0, 1, 0, 0, 0, 1, 0, 0, 0, 0, 0, 0, 1, 97, 0, 237, 101],
    ),
    (
        (7, GREATEST, [((GREATEST, 7), (7, GREATEST), "abcdefgh", ("ref", (7, GREATEST)))]),
        [7, 255, 255, 255, 255, 0, 1, 255, 255, 255, 255, 7, 7, 255, 255, 255, 255,
         8, 97, 98, 99, 100, 101, 102, 103, 104, 3, 7, 255, 255, 255, 255, 114, 60],
    ),
]

# The octets of changes without those of the value, and of values with these values.
HEAD = [0, 0, 0, 1, 0, 0, 0, 0, 0, 0, 1, 97]
VALUES = [
    (None, [0]),
    (0, [1, 15, 66, 64]),
    (-1000000, [1, 0, 0, 0]),
    (1000000, [1, 30, 132, 128]),
    (-1, [1, 15, 66, 63]),
    ("", [2, 0]),
    ("az", [2, 2, 97, 122]),
    ("abcdefghijklmnopqrst", [2, 20] + list(range(97, 117))),
    (("ref", (0, 0)), [3, 0, 0, 0, 0, 0]),
    (("ref", (5, 16909060)), [3, 5, 1, 2, 3, 4]),
    (("ref", (7, GREATEST)), [3, 7, 255, 255, 255, 255]),
]

SAMPLES = [
    (0, 0, []),
    (7, GREATEST, []),
    (3, 256, [((1, 0), (0, 0), "a", None)]),
    (1, 7, [((256, 1), (7, 65536), "zzzzzzzz", 1000000), ((1, 7), (1, 255), "b", -1000000)]),
    (5, 70000, [
        ((65536, 5), (2, 3), "name", "abcxyz"), ((GREATEST, 7), (7, GREATEST), "ab", ("ref", (7, GREATEST))),
        ((2, 0), (0, 0), "t", ""), ((2, 0), (0, 0), "t", ""), ((9, 3), (4, 9), "m", None),
    ]),
    (2, 1, [((16777216, 2), (1, 1), "text", "zyxwvutsrqponmlkjihg"), ((3, 3), (6, 1), "n", 0)]),
]

SPOILT = [0, 1, 2, 3, 4, 7, 8, 9, 20, 21, 30, 31, 96, 97, 122, 123, 132, 133, 128, 129, 255]


def sums(octets):
    """The check sum without running sums: each octet counts in high as often as there are octets from it on."""
    high = sum((len(octets) - at) * octet for at, octet in enumerate(octets))
    return [high % 256, sum(octets) % 256]


def with_check(octets):
    return octets + sums(octets)


def one_change(octets):
    """The octets of a message with one change, which has these octets, and the place of the first of them."""
    head = [0, 0, 0, 0, 1, 0, 1]
    return with_check(head + octets), len(head)


def end_of_change(octets, start):
    """Where a change ends that begins at a place, or None: a plain reader without places."""
    part = octets[start:]
    if len(part) < 13 or part[:4] == [0, 0, 0, 0] or part[4] > 7 or part[5] > 7:
        return None
    many = part[10]
    field = part[11:11 + many]
    if not 1 <= many <= 8 or any(letter < 97 or letter > 122 for letter in field) or len(part) < 12 + many:
        return None
    value = part[11 + many:]
    if value[0] == 0:
        end = 1
    elif value[0] == 1:
        end = 4
        if value[1:4] > [30, 132, 128]:
            return None
    elif value[0] == 2:
        if len(value) < 2 or value[1] > 20 or any(letter < 97 or letter > 122 for letter in value[2:2 + value[1]]):
            return None
        end = 2 + value[1]
    elif value[0] == 3:
        end = 6
        if len(value) > 1 and value[1] > 7:
            return None
    else:
        return None
    if len(value) < end:
        return None
    return start + 11 + many + end


# If any octets bring a change to a right end, then so does one of these.
TAILS = (
    [HEAD[at:] + [0] for at in range(len(HEAD) + 1)]
    + [[97] * many + [0] for many in range(9)] + [[97] * many for many in range(21)]
    + [[0] * many for many in range(6)]
)


def can_begin(octets):
    if octets[0] > 7:
        return False
    if len(octets) < 7:
        return True
    at = 7
    for _ in range(octets[5] * 256 + octets[6]):
        # What is not there yet can be made right.
        if at >= len(octets):
            return True
        end = end_of_change(octets, at)
        if end is None:
            return any(end_of_change(octets + tail, at) is not None for tail in TAILS)
        at = end
    rest = octets[at:]
    return sums(octets[:at])[:len(rest)] == rest


def is_message(octets):
    at = 7
    for _ in range(octets[5] * 256 + octets[6] if len(octets) > 6 else 1):
        at = end_of_change(octets, at)
        if at is None:
            return False
    return len(octets) == at + 2 and octets[0] < 8 and sums(octets[:at]) == octets[at:]


def first_wrong(octets, start):
    """The place that [16] asks for, or None; the octets ahead of start are known to begin a message's."""
    for place in range(start, len(octets)):
        if not can_begin(octets[:place + 1]):
            return place
    return None if is_message(octets) else len(octets)


def place_of(octets):
    """The place that CodeError tells, None if the octets are read."""
    try:
        read_message(octets)
    except CodeError as error:
        return error.place
    return None


class CheckCase(unittest.TestCase):
    def test_by_hand(self):
        for octets, check in (
            ([], [0, 0]), ([0], [0, 0]), ([1], [1, 1]), ([255], [255, 255]), ([1, 2], [4, 3]), ([2, 1], [5, 3]),
            ([1, 2, 3], [10, 6]), ([255, 1], [255, 0]), ([255, 255], [253, 254]), ([128, 128], [128, 0]),
            ([0, 0, 5], [5, 5]), ([5, 0, 0], [15, 5]), ([200, 100, 50], [82, 94]),
        ):
            self.assertEqual(check_of(octets), check, octets)

    def test_of_many_octets(self):
        self.assertEqual(check_of([1] * 1000), [1000 * 1001 // 2 % 256, 1000 % 256])
        self.assertEqual(check_of([255] * 256), [128, 0])
        chance = random.Random(8)
        for many in range(0, 700, 7):
            octets = [chance.randrange(256) for _ in range(many)]
            self.assertEqual(check_of(octets), sums(octets))

    def test_the_octets_are_as_they_were(self):
        octets = [3, 200, 100]
        check_of(octets).clear()
        self.assertEqual(octets, [3, 200, 100])
        self.assertEqual(check_of(octets), sums(octets))


class WritingCase(unittest.TestCase):
    def test_messages_by_hand(self):
        for (sender, number, changes), octets in WRITTEN:
            self.assertEqual(message_octets(sender, number, changes), octets)

    def test_values(self):
        for value, octets in VALUES:
            message, _ = one_change(HEAD + octets)
            self.assertEqual(message_octets(0, 1, [((1, 0), (0, 0), "a", value)]), message, value)

    def test_each_part_at_its_place(self):
        self.assertEqual(
            message_octets(6, 16909060, [((84281096, 5), (4, 151653132), "ab", 66051 - 1000000)]),
            with_check([6, 1, 2, 3, 4, 0, 1, 5, 6, 7, 8, 5, 4, 9, 10, 11, 12, 2, 97, 98, 1, 1, 2, 3]),
        )

    def test_changes_stand_in_their_order(self):
        later, sooner = ((9, 0), (0, 0), "a", None), ((1, 0), (0, 0), "a", None)
        octets = message_octets(0, 1, [later, sooner, later])
        nine, one = [0, 0, 0, 9] + HEAD[4:] + [0], HEAD + [0]
        self.assertEqual(octets, with_check([0, 0, 0, 0, 1, 0, 3] + nine + one + nine))

    def test_more_than_255_changes(self):
        changes = [((clock, 0), (0, 0), "a", None) for clock in range(1, 301)]
        octets = message_octets(0, 1, changes)
        self.assertEqual(octets[:7], [0, 0, 0, 0, 1, 1, 44])
        self.assertEqual(len(octets), 7 + 300 * 13 + 2)
        self.assertEqual(octets[-2:], sums(octets[:-2]))
        self.assertEqual(read_message(octets), (0, 1, changes))

    def test_the_changes_are_as_they_were_and_the_octets_are_new(self):
        for sender, number, changes in SAMPLES:
            before = copy.deepcopy(changes)
            octets = message_octets(sender, number, changes)
            expected = list(octets)
            octets.clear()
            self.assertEqual(changes, before)
            self.assertEqual(message_octets(sender, number, changes), expected)


class ReadingCase(unittest.TestCase):
    def test_messages_by_hand(self):
        for message, octets in WRITTEN:
            self.assertEqual(read_message(octets), message)

    def test_values(self):
        for value, octets in VALUES:
            message, _ = one_change(HEAD + octets)
            self.assertEqual(read_message(message), (0, 1, [((1, 0), (0, 0), "a", value)]))

    def test_samples(self):
        for sender, number, changes in SAMPLES:
            octets = message_octets(sender, number, changes)
            self.assertEqual(octets[-2:], sums(octets[:-2]))
            self.assertEqual(read_message(octets), (sender, number, changes))

    def test_the_most_changes(self):
        changes = [((clock, 0), (0, 0), "a", None) for clock in range(1, 65536)]
        octets = message_octets(0, 1, changes)
        self.assertEqual(octets[5:7], [255, 255])
        self.assertEqual(read_message(octets), (0, 1, changes))

    def test_changes_with_one_stamp_are_read(self):
        changes = [((1, 0), (0, 0), "a", 1), ((1, 0), (0, 0), "a", 2), ((1, 0), (0, 0), "a", 1)]
        self.assertEqual(read_message(message_octets(0, 1, changes)), (0, 1, changes))

    def test_fields_need_not_ascend(self):
        changes = [((2, 0), (0, 0), "zz", 1), ((1, 0), (0, 0), "a", 2)]
        self.assertEqual(read_message(message_octets(0, 1, changes)), (0, 1, changes))

    def test_the_kinds_of_the_parts(self):
        message = read_message(message_octets(*SAMPLES[4]))
        self.assertIsInstance(message, tuple)
        self.assertIsInstance(message[2], list)
        for change in message[2]:
            self.assertIsInstance(change, tuple)

    def test_the_octets_are_as_they_were_and_the_changes_are_new(self):
        octets = message_octets(*SAMPLES[4])
        before = list(octets)
        read_message(octets)[2].clear()
        self.assertEqual(octets, before)
        self.assertEqual(read_message(octets), SAMPLES[4])


class WrongOctetsCase(unittest.TestCase):
    def assert_place(self, octets, place):
        before = list(octets)
        with self.assertRaises(CodeError) as caught:
            read_message(octets)
        self.assertEqual(caught.exception.place, place, octets)
        self.assertEqual(octets, before)

    def assert_place_in_change(self, octets, at):
        message, start = one_change(octets)
        self.assert_place(message, start + at)
        self.assert_place(message[:start + at + 1], start + at)

    def test_the_empty_list(self):
        self.assert_place([], 0)

    def test_every_beginning(self):
        for message in SAMPLES:
            octets = message_octets(*message)
            for many in range(len(octets)):
                self.assert_place(octets[:many], many)

    def test_octets_left_over(self):
        for message in SAMPLES:
            octets = message_octets(*message)
            for more in ([0], [255], sums(octets), octets):
                self.assert_place(octets + more, len(octets))

    def test_senders(self):
        for sender in (8, 9, 255):
            self.assert_place(with_check([sender, 0, 0, 0, 1, 0, 0]), 0)
        for sender in range(8):
            self.assertIsNone(place_of(with_check([sender, 0, 0, 0, 1, 0, 0])))

    def test_peers_of_changes(self):
        for peer in (8, 9, 255):
            for at in (4, 5):
                octets = HEAD + [0]
                octets[at] = peer
                self.assert_place_in_change(octets, at)
            self.assert_place_in_change(HEAD + [3, peer, 0, 0, 0, 0], len(HEAD) + 1)
        for peer in range(8):
            for at in (4, 5):
                octets = HEAD + [0]
                octets[at] = peer
                self.assertIsNone(place_of(one_change(octets)[0]))

    def test_clocks(self):
        self.assert_place_in_change([0, 0, 0, 0] + HEAD[4:] + [0], 3)
        for at in range(4):
            clock = [0, 0, 0, 0]
            clock[at] = 1
            self.assertIsNone(place_of(one_change(clock + HEAD[4:] + [0])[0]))
        self.assertIsNone(place_of(one_change([255, 255, 255, 255] + HEAD[4:] + [0])[0]))

    def test_fields(self):
        self.assert_place_in_change(HEAD[:10] + [0, 0], 10)
        for many in (9, 10, 255):
            self.assert_place_in_change(HEAD[:10] + [many] + [97] * many + [0], 10)
        for octet in (0, 48, 65, 90, 96, 123, 229, 255):
            for at in range(8):
                field = [97] * 8
                field[at] = octet
                self.assert_place_in_change(HEAD[:10] + [8] + field + [0], 11 + at)

    def test_texts(self):
        for many in (21, 22, 255):
            self.assert_place_in_change(HEAD + [2, many] + [97] * many, len(HEAD) + 1)
        for octet in (0, 48, 65, 90, 96, 123, 229, 255):
            for at in range(20):
                text = [122] * 20
                text[at] = octet
                self.assert_place_in_change(HEAD + [2, 20] + text, len(HEAD) + 2 + at)

    def test_integers_too_great(self):
        for octets, at in (
            ([30, 132, 129], 2), ([30, 132, 255], 2), ([30, 133, 0], 1), ([30, 255, 0], 1),
            ([31, 0, 0], 0), ([255, 255, 255], 0),
        ):
            self.assert_place_in_change(HEAD + [1] + octets, len(HEAD) + 1 + at)
        for octets in ([30, 132, 128], [30, 131, 255], [29, 255, 255], [0, 0, 0]):
            self.assertIsNone(place_of(one_change(HEAD + [1] + octets)[0]))

    def test_unknown_kinds_of_values(self):
        for kind in (4, 5, 97, 255):
            self.assert_place_in_change(HEAD + [kind, 0, 0, 0], len(HEAD))

    def test_a_later_change(self):
        head = [0, 0, 0, 0, 1, 0, 3] + HEAD + [0] + HEAD + [2, 1, 97]
        self.assertIsNone(place_of(with_check(head + HEAD + [0])))
        self.assert_place(with_check(head + HEAD[:4] + [8] + HEAD[5:] + [0]), len(head) + 4)
        self.assert_place(with_check(head + [0, 0, 0, 0] + HEAD[4:] + [0]), len(head) + 3)

    def test_check_sums(self):
        for message in SAMPLES:
            octets = message_octets(*message)
            for at in (len(octets) - 2, len(octets) - 1):
                for octet in range(256):
                    if octet != octets[at]:
                        spoilt = list(octets)
                        spoilt[at] = octet
                        self.assert_place(spoilt, at)
            high, low = octets[-2:]
            if high != low:
                self.assert_place(octets[:-2] + [low, high], len(octets) - 2)

    def test_one_octet_exchanged(self):
        for message in SAMPLES:
            octets = message_octets(*message)
            for at in range(len(octets)):
                for octet in range(256):
                    if octet != octets[at]:
                        spoilt = list(octets)
                        spoilt[at] = octet
                        place = place_of(spoilt)
                        self.assertIsNotNone(place, (octets, at, octet))
                        self.assertGreaterEqual(place, at)


class SpoiltOctetsCase(unittest.TestCase):
    """Right octets with one octet exchanged, left out or put in, against a search for right ends."""

    def check(self, octets, start):
        expected = first_wrong(octets, start)
        self.assertEqual(place_of(octets), expected, octets)
        if expected is None:
            self.assertEqual(message_octets(*read_message(octets)), octets)

    def test_the_search_takes_right_octets(self):
        for message in SAMPLES:
            self.assertIsNone(first_wrong(message_octets(*message), 0))

    def test_exchanged(self):
        for message in SAMPLES:
            octets = message_octets(*message)
            for place in range(len(octets)):
                near = [(octets[place] + 1) % 256, (octets[place] - 1) % 256]
                for octet in SPOILT + near:
                    self.check(octets[:place] + [octet] + octets[place + 1:], place)

    def test_exchanged_with_the_check_sum_made_anew(self):
        for message in SAMPLES:
            octets = message_octets(*message)[:-2]
            for place in range(len(octets)):
                for octet in SPOILT:
                    self.check(with_check(octets[:place] + [octet] + octets[place + 1:]), place)

    def test_left_out_and_put_in(self):
        for message in SAMPLES:
            octets = message_octets(*message)
            for place in range(len(octets)):
                self.check(octets[:place] + octets[place + 1:], place)
                for octet in (0, 1, 3, 97, 255):
                    self.check(octets[:place] + [octet] + octets[place:], place)


if __name__ == "__main__":
    unittest.main()
