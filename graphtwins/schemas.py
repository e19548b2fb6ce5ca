"""Kinds of objects: what fields they have, and with which values."""

from graphtwins.classes import smaller
from graphtwins.queries import Search
from graphtwins.values import GREATEST_INTEGER, LEAST_INTEGER, LONGEST_TEXT, linked_name


def fits(rule, value):
    """Whether a value keeps a rule."""
    if rule[0] == "integer":
        return isinstance(value, int) and rule[1] <= value <= rule[2]
    if rule[0] == "text":
        return isinstance(value, str) and len(value) <= rule[1]
    return isinstance(value, tuple)


def fault_of(rules, fields):
    """The first fault (field, reason) of an object for the rules of a kind, or None."""
    values = dict(fields)
    for field in _all_fields(rules, values):
        reason = _reason(rules, values, field)
        if reason is not None:
            return (field, reason)
    return None


def first_fault(schema, graph, kinds):
    """The first fault (number, kind, field, reason) of a graph whose roots are of some kinds, or None."""
    roots, objects = graph
    search = Search(list(zip(roots, kinds)))
    pair = search.next_place()
    while pair is not None:
        number, kind = pair
        rules = schema[kind]
        fault = fault_of(rules, objects[number])
        if fault is not None:
            return (number, kind) + fault
        for field, value in objects[number]:
            # Without a fault, the rule for a field that refers to an object is a kind.
            if linked_name(value) is not None:
                search.meet((linked_name(value), _kind_at(rules, field)), pair, field)
        pair = search.next_place()
    return None


def is_within(schema, kind, other):
    """Whether in every graph each object that keeps the one kind keeps the other one."""
    return _first_gap(schema, _keepable(schema), kind, other) is None


def telling_graph(schema, kind, other):
    """A graph with one root that keeps the one kind and not the other one, or None."""
    kinds = _keepable(schema)
    gap = _first_gap(schema, kinds, kind, other)
    if gap is None:
        return None
    row, told = gap
    # First an object of each kind, then those on the row of fields to the gap.
    numbers = {name: number for number, name in enumerate(kinds)}
    objects = [_needed_values(kinds[name], numbers) for name in kinds]
    root = len(objects)
    at = kind
    for field in row:
        values = _needed_values(kinds[at], numbers)
        values[field] = ("ref", len(objects) + 1)
        objects.append(values)
        at = _kind_at(kinds[at], field)
    values = _needed_values(kinds[at], numbers)
    for field in told:
        values[field] = _numbered_value(told[field], numbers)
    objects.append(values)
    # The smaller graph tells the kinds apart, too, since its rows of fields lead to objects of
    # the same looks; it is numbered from the root on, without the objects that are not reached.
    return smaller(([root], [sorted(values.items()) for values in objects]))


def _all_fields(rules, values):
    """The fields of a kind and of an object, or of two kinds, ascending, each once."""
    return sorted(set(list(rules) + list(values)))


def _reason(rules, values, field):
    """What is wrong at a field of an object, for the rules of a kind, or None."""
    if field not in values:
        return "missing" if field in rules and rules[field][1] else None
    if field not in rules:
        return "unexpected"
    return None if fits(rules[field][0], values[field]) else "wrong"


def _kind_at(rules, field):
    """The kind that is the rule for a field."""
    return rules[field][0][1]


def _extremes(rule):
    """The least and the greatest value that a rule lets by, or one where one is enough; none if it lets none by."""
    if rule[0] == "integer":
        least = max(rule[1], LEAST_INTEGER)
        greatest = min(rule[2], GREATEST_INTEGER)
        return [least, greatest] if least <= greatest else []
    if rule[0] == "text":
        longest = min(rule[1], LONGEST_TEXT)
        return ["a" * longest] if longest >= 0 else []
    # In place of a number stands the kind of which an object is asked for.
    return [("ref", rule[1])]


def _lets_any_by(rule, kinds):
    """Whether a rule lets any value by, if there can be objects of these kinds alone."""
    if rule[0] == "kind":
        return rule[1] in kinds
    return _extremes(rule) != []


def _keepable(schema):
    """The kinds that some graph keeps, each without the fields that no object of it has."""
    kinds = {kind: schema[kind] for kind in schema}
    lost = _lost_kinds(kinds)
    while lost:
        kinds = {kind: kinds[kind] for kind in kinds if kind not in lost}
        lost = _lost_kinds(kinds)
    return {kind: _possible_rules(kinds[kind], kinds) for kind in kinds}


def _lost_kinds(kinds):
    """Those kinds that need a field that no object can have, if there are objects of these kinds alone."""
    lost = {}
    for kind, rules in kinds.items():
        for rule, needed in rules.values():
            if needed and not _lets_any_by(rule, kinds):
                lost[kind] = True
    return lost


def _possible_rules(rules, kinds):
    return {field: rules[field] for field in rules if _lets_any_by(rules[field][0], kinds)}


def _first_gap(schema, kinds, kind, other):
    """The row of fields to the first pair of kinds with a gap, and the values that tell it; or None.

    What objects of the first kind can be is asked of the kinds that some graph keeps: a kind that
    no graph keeps is within each other one.
    """
    search = Search([(kind, other)] if kind in kinds else [])
    pair = search.next_place()
    while pair is not None:
        rules, asked = kinds[pair[0]], schema[pair[1]]
        told = _gap_between(rules, asked)
        if told is not None:
            return (search.row_to(pair), told)
        for field in sorted(rules):
            if rules[field][0][0] == "kind":
                # Without a gap, the rule of the second kind is a kind, too.
                search.meet((_kind_at(rules, field), _kind_at(asked, field)), pair, field)
        pair = search.next_place()
    return None


def _gap_between(rules, asked):
    """What an object that keeps rules can have at the first field with a gap, beside what it needs; or None."""
    for field in _all_fields(rules, asked):
        for values in _choices(rules, field):
            if _reason(asked, values, field) is not None:
                return values
    return None


def _choices(rules, field):
    """What an object that keeps rules can have at a field, as far as another kind can tell it apart."""
    if field not in rules:
        return [{}]
    rule, needed = rules[field]
    values = [{field: value} for value in _extremes(rule)]
    return values if needed else [{}] + values


def _needed_values(rules, numbers):
    """The values of an object with just the fields that a kind needs."""
    return {
        field: _numbered_value(_extremes(rule)[0], numbers) for field, (rule, needed) in rules.items() if needed
    }


def _numbered_value(value, numbers):
    """A value with the number of an object in place of its kind."""
    kind = linked_name(value)
    if kind is None:
        return value
    return ("ref", numbers[kind])
