"""[4] Stamps and changes."""

import itertools
import unittest

from graphtwins.changes import greatest_stamp, is_change, is_later, is_stamp, sorted_changes

FAR = 10 ** 30
GREATEST = 4294967295

CHANGES = [
    ((1, 0), (0, 0), "a", 1),
    ((1, 3), (0, 1), "b", "text"),
    ((2, 0), (0, 0), "a", None),
    ((2, 7), (5, 2), "zz", ("ref", (0, 1))),
    ((10, 1), (0, 0), "a", -5),
]


class StampsCase(unittest.TestCase):
    def test_clocks(self):
        for clock in (1, 2, 255, 256, GREATEST - 1, GREATEST):
            for peer in (0, 7):
                self.assertIs(is_stamp((clock, peer)), True, clock)
        for clock in (0, -1, GREATEST + 1, FAR, -FAR):
            for peer in (0, 7):
                self.assertIs(is_stamp((clock, peer)), False, clock)

    def test_peers(self):
        for peer in range(8):
            self.assertIs(is_stamp((1, peer)), True, peer)
        for peer in (-1, 8, 9, FAR, -FAR):
            self.assertIs(is_stamp((1, peer)), False, peer)

    def test_later_by_the_clock(self):
        self.assertIs(is_later((2, 0), (1, 7)), True)
        self.assertIs(is_later((1, 7), (2, 0)), False)
        self.assertIs(is_later((10, 0), (9, 0)), True)
        self.assertIs(is_later((GREATEST, 0), (GREATEST - 1, 7)), True)

    def test_later_by_the_peer_where_the_clocks_are_equal(self):
        self.assertIs(is_later((5, 3), (5, 2)), True)
        self.assertIs(is_later((5, 2), (5, 3)), False)

    def test_equal_stamps_are_not_later(self):
        self.assertIs(is_later((5, 3), (5, 3)), False)
        self.assertIs(is_later((1, 0), (1, 0)), False)

    def test_later_than_none(self):
        for stamp in ((1, 0), (GREATEST, 7)):
            self.assertIs(is_later(stamp, None), True)


class ChangesCase(unittest.TestCase):
    def test_right_ones(self):
        for change in CHANGES:
            self.assertIs(is_change(change), True, change)
        self.assertIs(is_change(((GREATEST, 7), (7, GREATEST), "abcdefgh", "z" * 20)), True)

    def test_wrong_stamps(self):
        for stamp in ((0, 0), (GREATEST + 1, 0), (1, 8), (1, -1), (FAR, FAR)):
            self.assertIs(is_change((stamp, (0, 0), "a", 1)), False, stamp)

    def test_wrong_names(self):
        for name in ((8, 0), (-1, 0), (0, -1), (0, GREATEST + 1), (FAR, -FAR)):
            self.assertIs(is_change(((1, 0), name, "a", 1)), False, name)

    def test_wrong_fields(self):
        for field in ("", "abcdefghi", "A", "a1", " ", "`", "{", "\u00e4"):
            self.assertIs(is_change(((1, 0), (0, 0), field, 1)), False, field)

    def test_wrong_values(self):
        for value in (1000001, -1000001, "a" * 21, "A", ("ref", (8, 0)), ("rex", (0, 0)), FAR):
            self.assertIs(is_change(((1, 0), (0, 0), "a", value)), False, value)

    def test_right_values(self):
        for value in (None, 1000000, -1000000, "", "a" * 20, ("ref", (7, GREATEST))):
            self.assertIs(is_change(((1, 0), (0, 0), "a", value)), True, value)


class GreatestStampCase(unittest.TestCase):
    def test_of_none(self):
        self.assertIsNone(greatest_stamp([]))

    def test_of_one(self):
        self.assertEqual(greatest_stamp([CHANGES[0]]), (1, 0))

    def test_of_many(self):
        for row in itertools.permutations(CHANGES):
            self.assertEqual(greatest_stamp(list(row)), (10, 1))
        self.assertEqual(greatest_stamp([CHANGES[3], CHANGES[2]]), (2, 7))
        self.assertEqual(greatest_stamp([CHANGES[2], CHANGES[3]]), (2, 7))

    def test_the_list_is_as_it_was(self):
        row = [CHANGES[3], CHANGES[0], CHANGES[3]]
        greatest_stamp(row)
        self.assertEqual(row, [CHANGES[3], CHANGES[0], CHANGES[3]])


class SortedChangesCase(unittest.TestCase):
    def test_of_none(self):
        self.assertEqual(sorted_changes([]), [])

    def test_of_mixed_ones(self):
        for row in itertools.permutations(CHANGES):
            self.assertEqual(sorted_changes(list(row)), CHANGES)

    def test_by_the_stamp_and_nothing_else(self):
        changes = [((1, 1), (7, 9), "z", 9), ((1, 2), (0, 0), "a", None), ((2, 0), (3, 0), "m", "a")]
        self.assertEqual(sorted_changes([changes[1], changes[2], changes[0]]), changes)

    def test_each_once(self):
        self.assertEqual(sorted_changes(CHANGES + CHANGES), CHANGES)
        self.assertEqual(sorted_changes([CHANGES[4], CHANGES[1], CHANGES[4], CHANGES[4]]), [CHANGES[1], CHANGES[4]])
        self.assertEqual(sorted_changes([CHANGES[2]] * 5), [CHANGES[2]])

    def test_equal_ones_that_were_made_apart(self):
        again = [tuple(list(change)) for change in CHANGES]
        self.assertEqual(sorted_changes(again + CHANGES), CHANGES)

    def test_the_list_is_as_it_was(self):
        row = [CHANGES[3], CHANGES[0], CHANGES[3], CHANGES[2]]
        told = sorted_changes(row)
        self.assertEqual(row, [CHANGES[3], CHANGES[0], CHANGES[3], CHANGES[2]])
        told.append("more")
        self.assertEqual(row, [CHANGES[3], CHANGES[0], CHANGES[3], CHANGES[2]])

    def test_a_new_list(self):
        row = list(CHANGES)
        told = sorted_changes(row)
        told.clear()
        self.assertEqual(row, CHANGES)
        self.assertEqual(sorted_changes(row), CHANGES)


if __name__ == "__main__":
    unittest.main()
