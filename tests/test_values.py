"""[3] Names of objects, fields, values, references."""

import unittest

from graphtwins.values import (
    ROOT, is_field, is_name, is_reference, is_value, reference, target_of,
)

FAR = 10 ** 30
GREATEST = 4294967295

# None of these is one of the letters a to z: capitals, digits, blanks, signs (also those just
# ahead of a and just behind z), letters of other alphabets.
OTHER_LETTERS = list("AZ09 \t\n`{@[-_.\"'") + [
    "\u00e4", "\u00df", "\u00e9", "\u03b1", "\u0430", "\uff41", "\u0131", "\x00", "\x7f", "\U0001d41a",
]


class Case(unittest.TestCase):
    def assert_is(self, answer, expected, told=None):
        self.assertIs(answer, expected, told)


class NamesCase(Case):
    def test_root(self):
        self.assertEqual(ROOT, (0, 0))
        self.assertIsInstance(ROOT, tuple)
        self.assert_is(is_name(ROOT), True)

    def test_peers_within_their_bounds(self):
        for peer in range(8):
            self.assert_is(is_name((peer, 5)), True, peer)

    def test_peers_beyond_their_bounds(self):
        for peer in (-1, 8, 9, -8, 255, FAR, -FAR):
            self.assert_is(is_name((peer, 0)), False, peer)
            self.assert_is(is_name((peer, 5)), False, peer)

    def test_counts_within_their_bounds(self):
        for count in (0, 1, 255, 256, 65536, GREATEST - 1, GREATEST):
            for peer in (0, 7):
                self.assert_is(is_name((peer, count)), True, count)

    def test_counts_beyond_their_bounds(self):
        for count in (-1, GREATEST + 1, -GREATEST, FAR, -FAR):
            for peer in (0, 3, 7):
                self.assert_is(is_name((peer, count)), False, count)

    def test_both_beyond(self):
        self.assert_is(is_name((8, -1)), False)
        self.assert_is(is_name((-FAR, FAR)), False)


class FieldsCase(Case):
    def test_each_letter(self):
        for letter in "abcdefghijklmnopqrstuvwxyz":
            self.assert_is(is_field(letter), True, letter)
            self.assert_is(is_field("m" * 7 + letter), True, letter)

    def test_lengths(self):
        for many in range(1, 9):
            self.assert_is(is_field("abcdefgh"[:many]), True, many)
        self.assert_is(is_field(""), False)
        self.assert_is(is_field("abcdefghi"), False)
        self.assert_is(is_field("a" * 100000), False)

    def test_other_letters(self):
        for letter in OTHER_LETTERS:
            for text in (letter, letter + "a", "a" + letter, "abc" + letter + "efg", "abcdefg" + letter):
                self.assert_is(is_field(text), False, repr(text))


class ValuesCase(Case):
    def test_none(self):
        self.assert_is(is_value(None), True)

    def test_integers(self):
        for number in (-1000000, -999999, -1, 0, 1, 999999, 1000000):
            self.assert_is(is_value(number), True, number)
        for number in (-1000001, 1000001, FAR, -FAR):
            self.assert_is(is_value(number), False, number)

    def test_texts(self):
        for text in ("", "a", "z", "ref", "abcdefghijklmnopqrst", "uvwxyz", "z" * 20):
            self.assert_is(is_value(text), True, text)
        for text in ("a" * 21, "a" * 100000):
            self.assert_is(is_value(text), False, len(text))

    def test_texts_of_other_letters(self):
        for letter in OTHER_LETTERS:
            for text in (letter, letter + "a", "a" + letter, "a" * 10 + letter + "a" * 9, "a" * 19 + letter):
                self.assert_is(is_value(text), False, repr(text))

    def test_references_to_names(self):
        for name in (ROOT, (0, 1), (7, 0), (7, GREATEST), (0, GREATEST), (3, 65536)):
            self.assert_is(is_value(("ref", name)), True, name)

    def test_references_to_no_names(self):
        for name in ((-1, 0), (8, 0), (0, -1), (7, GREATEST + 1), (FAR, FAR), (-FAR, -FAR)):
            self.assert_is(is_value(("ref", name)), False, name)

    def test_tuples_with_another_text(self):
        for text in ("", "r", "re", "refs", "Ref", "REF", " ref", "object", "a" * 100):
            self.assert_is(is_value((text, ROOT)), False, text)
            self.assert_is(is_value((text, (8, 0))), False, text)


class ReferencesCase(Case):
    def test_reference(self):
        for name in (ROOT, (0, 1), (7, GREATEST)):
            self.assertEqual(reference(name), ("ref", name))
            self.assertIsInstance(reference(name), tuple)
            self.assert_is(is_value(reference(name)), True)

    def test_references(self):
        for name in (ROOT, (0, 1), (7, 0), (7, GREATEST)):
            self.assert_is(is_reference(("ref", name)), True, name)
            self.assertEqual(target_of(("ref", name)), name)
            self.assertEqual(target_of(reference(name)), name)

    def test_values_that_are_no_references(self):
        for value in (None, 0, 5, -1000000, 1000000, "", "a", "ref", "abcdefghijklmnopqrst"):
            self.assert_is(is_reference(value), False, value)
            self.assertIsNone(target_of(value), value)

    def test_tuples_with_another_text(self):
        self.assert_is(is_reference(("rex", ROOT)), False)
        self.assertIsNone(target_of(("rex", ROOT)))

    def test_far_beyond_the_bounds_there_is_an_answer(self):
        for value in (FAR, -FAR, "a" * 100000, ("ref", (FAR, FAR)), ("ref", (-FAR, -FAR))):
            self.assertIn(is_reference(value), (True, False))


if __name__ == "__main__":
    unittest.main()
