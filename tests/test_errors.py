"""The errors of the interface: what is an instance of what, and their fields."""

import unittest

from graphtwins.errors import (
    BadPeer, CodeError, GraphtwinsError, LineError, NoSuchMessage, NoSuchObject, NotHere,
    NothingThere, NotTogether, PowerCut, ShutError,
)

# Each error with its arguments, by the names of the fields.
ERRORS = [
    (CodeError, {"place": 17}),
    (NothingThere, {"place": 3}),
    (LineError, {"line": 1}),
    (NoSuchObject, {"name": (7, 4294967295)}),
    (NotHere, {"name": (0, 0)}),
    (BadPeer, {"peer": -1}),
    (NoSuchMessage, {"sender": 5, "number": 9}),
    (PowerCut, {"written": 1000}),
    (NotTogether, {}),
    (ShutError, {}),
]


class ErrorsCase(unittest.TestCase):
    def test_the_common_error_is_a_value_error(self):
        self.assertTrue(issubclass(GraphtwinsError, ValueError))
        self.assertIsInstance(GraphtwinsError(), ValueError)

    def test_all_are_instances_of_the_common_one(self):
        for kind, fields in ERRORS:
            error = kind(*fields.values())
            self.assertIsInstance(error, GraphtwinsError)
            self.assertIsInstance(error, ValueError)

    def test_none_is_an_instance_of_another_one(self):
        for kind, fields in ERRORS:
            error = kind(*fields.values())
            for other, _ in ERRORS:
                self.assertEqual(isinstance(error, other), kind is other)
            self.assertNotEqual(kind, GraphtwinsError)

    def test_each_has_its_arguments_as_fields(self):
        for kind, fields in ERRORS:
            for error in (kind(*fields.values()), kind(**fields)):
                for field, value in fields.items():
                    self.assertEqual(getattr(error, field), value)

    def test_sender_and_number_are_not_exchanged(self):
        error = NoSuchMessage(2, 3)
        self.assertEqual((error.sender, error.number), (2, 3))

    def test_each_can_be_raised_and_caught(self):
        for kind, fields in ERRORS:
            with self.assertRaises(GraphtwinsError) as caught:
                raise kind(*fields.values())
            self.assertIs(caught.exception.__class__, kind)
            self.assertIsInstance(str(caught.exception), str)

    def test_fields_are_of_each_error_itself(self):
        one, other = CodeError(1), CodeError(2)
        self.assertEqual((one.place, other.place), (1, 2))


if __name__ == "__main__":
    unittest.main()
