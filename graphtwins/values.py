"""Names of objects, fields, and the values that fields can have."""

ROOT = (0, 0)

GREATEST_PEER = 7
GREATEST_COUNT = 4294967295
LONGEST_FIELD = 8
LONGEST_TEXT = 20
LEAST_INTEGER = -1000000
GREATEST_INTEGER = 1000000


def is_peer(number):
    """Whether an integer is a peer."""
    return 0 <= number <= GREATEST_PEER


def is_name(name):
    """Whether a tuple of two integers is the name of an object."""
    peer, count = name
    return is_peer(peer) and 0 <= count <= GREATEST_COUNT


def is_field(text):
    """Whether a text is a field."""
    return 1 <= len(text) <= LONGEST_FIELD and _has_plain_letters(text)


def is_value(value):
    """Whether None, an integer, a text or a tuple (text, tuple of two integers) is a value."""
    if value is None:
        return True
    if isinstance(value, int):
        return LEAST_INTEGER <= value <= GREATEST_INTEGER
    if isinstance(value, str):
        return len(value) <= LONGEST_TEXT and _has_plain_letters(value)
    return is_reference(value)


def reference(name):
    """The reference to an object."""
    return ("ref", name)


def is_reference(value):
    """Whether a value is a reference."""
    return isinstance(value, tuple) and value[0] == "ref" and is_name(value[1])


def target_of(value):
    """The name to which a value refers, or None."""
    if is_reference(value):
        return value[1]
    return None


def linked_name(value):
    """The name to which the value of a field leads, or None."""
    # Unlike target_of this also follows names beyond the bounds: they are to raise no error,
    # and a graph that kept them as they are would have no octets.
    if isinstance(value, tuple):
        return value[1]
    return None


def _has_plain_letters(text):
    return all(["a" <= letter <= "z" for letter in text])
