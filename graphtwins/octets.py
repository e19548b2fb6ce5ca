"""Octets of graphs."""

from graphtwins.reading import INTEGER, OBJECT, TEXT, Reader
from graphtwins.values import LEAST_INTEGER, LONGEST_FIELD


def number_octets(number, many):
    """So many octets of a number, the greatest first."""
    octets = []
    rest = number
    for _ in range(many):
        octets.append(rest % 256)
        rest = rest // 256
    octets.reverse()
    return octets


def word_octets(word):
    """The octets of a word: the number of its letters, and their codes."""
    return number_octets(len(word), 1) + [ord(letter) for letter in word]


def plain_octets(value):
    """The octets of a value that is an integer or a text."""
    if isinstance(value, str):
        return [TEXT] + word_octets(value)
    return [INTEGER] + number_octets(value - LEAST_INTEGER, 3)


def graph_octets(graph):
    """The octets of a graph."""
    roots, objects = graph
    octets = number_octets(len(roots), 1)
    for root in roots:
        octets.extend(number_octets(root, 2))
    for fields in objects:
        for field, value in fields:
            octets.extend(word_octets(field))
            octets.extend(_value_octets(value))
        octets.append(0)
    return octets


def read_graph(octets):
    """The graph that has these octets; raises CodeError."""
    reader = Reader(octets)
    roots, met = _read_roots(reader)
    objects = []
    while len(objects) < met:
        fields, met = _read_fields(reader, met)
        objects.append(fields)
    reader.finish()
    return (roots, objects)


def _value_octets(value):
    if isinstance(value, tuple):
        return [OBJECT] + number_octets(value[1], 2)
    return plain_octets(value)


def _read_roots(reader):
    """The numbers of the roots, and how many objects are met by them."""
    many = reader.next_octet(0, 255)
    roots = []
    met = 0
    for _ in range(many):
        root = reader.next_number(2, 0, met)
        roots.append(root)
        met = max(met, root + 1)
    return (roots, met)


def _read_fields(reader, met_before):
    """The fields of the next object, and how many objects are met up to its end."""
    fields = []
    met = met_before
    # The octet 0 at the end of an object is read as a word without letters.
    field = reader.next_word(0, LONGEST_FIELD, "")
    while field != "":
        value = _read_value(reader, met)
        if isinstance(value, tuple):
            met = max(met, value[1] + 1)
        fields.append((field, value))
        field = reader.next_word(0, LONGEST_FIELD, field)
    return (fields, met)


def _read_value(reader, met):
    kind = reader.next_octet(INTEGER, OBJECT)
    if kind == OBJECT:
        # The number met is that of an object that is met only now.
        return ("ref", reader.next_number(2, 0, met))
    return reader.next_plain(kind)
