"""Texts of graphs, for people to read."""

from graphtwins.errors import LineError
from graphtwins.values import is_field, is_value

MOST_FIGURES = 8


def format_value(value):
    """The text of a value of a graph."""
    if isinstance(value, tuple):
        return f"#{value[1]}"
    if isinstance(value, str):
        return '"' + value + '"'
    return str(value)


def format_graph(graph):
    """The text of a graph."""
    roots, objects = graph
    lines = [" ".join(["roots"] + [str(root) for root in roots])]
    for number, fields in enumerate(objects):
        words = [f"{field}={format_value(value)}" for field, value in fields]
        lines.append(" ".join([f"{number}:"] + words))
    return "\n".join(lines)


def parse_graph(text):
    """The graph that has this text; raises LineError."""
    lines = text.split("\n")
    roots, met = _parse_roots(lines[0])
    objects = []
    for line in lines[1:]:
        # The line of the object 0 is line 2.
        fields, met = _parse_object(line, len(objects), met, len(objects) + 2)
        objects.append(fields)
    if len(objects) < met:
        raise LineError(len(lines) + 1)
    return (roots, objects)


def _parse_roots(line):
    """The numbers of the roots, and how many objects are met by them."""
    words = line.split(" ")
    if words[0] != "roots":
        raise LineError(1)
    roots = []
    met = 0
    for word in words[1:]:
        root = _parse_met(word, met, 1)
        met = max(met, root + 1)
        roots.append(root)
    return (roots, met)


def _parse_object(line, number, met_before, at):
    """The fields of the next object, and how many objects are met up to the end of its line."""
    words = line.split(" ")
    if number >= met_before or words[0] != f"{number}:":
        raise LineError(at)
    fields = []
    met = met_before
    before = ""
    for word in words[1:]:
        field, sign, rest = word.partition("=")
        if not is_field(field) or field <= before or sign == "":
            raise LineError(at)
        value = _parse_value(rest, met, at)
        if isinstance(value, tuple):
            met = max(met, value[1] + 1)
        fields.append((field, value))
        before = field
    return (fields, met)


def _parse_value(text, met, at):
    if text.startswith("#"):
        return ("ref", _parse_met(text[1:], met, at))
    value = _parse_plain(text, at)
    # A quote alone, or -0, is read as a value, too, but it is not the text of this value.
    if not is_value(value) or format_value(value) != text:
        raise LineError(at)
    return value


def _parse_plain(text, at):
    if text.startswith('"'):
        return text[1:-1]
    if text.startswith("-"):
        return -_parse_number(text[1:], at)
    return _parse_number(text, at)


def _parse_met(text, met, at):
    """The number of an object that was met, or of the one that is met next."""
    number = _parse_number(text, at)
    if number > met:
        raise LineError(at)
    return number


def _parse_number(text, at):
    if text == "" or len(text) > MOST_FIGURES or text[0] == "0" and len(text) > 1:
        raise LineError(at)
    # Not by isdigit: figures of other scripts are none here.
    if not all(["0" <= sign <= "9" for sign in text]):
        raise LineError(at)
    return int(text)
