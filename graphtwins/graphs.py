"""Graphs: what roots reach in a state, numbered in the order in which it is found."""

from graphtwins.values import linked_name


def reachable(state, roots):
    """The names that roots reach, in the order in which they are found."""
    return _reached(_fields_by_name(state), roots)


def numbered(state, roots):
    """The graph of a state from roots on."""
    objects = _fields_by_name(state)
    names = _reached(objects, roots)
    numbers = {name: number for number, name in enumerate(names)}
    root_numbers = [numbers[root] for root in roots]
    return (root_numbers, [_numbered_fields(objects.get(name, []), numbers) for name in names])


def are_alike(state, roots, other, other_roots):
    """Whether the graphs of two states, each from roots on, are alike."""
    return numbered(state, roots) == numbered(other, other_roots)


def _fields_by_name(state):
    """For each object with values the list of its tuples (field, value), by ascending fields."""
    # Made once for all objects: asking the state object by object would go over all its cells
    # for each of them.
    objects = {}
    for name, field in sorted(state.cells):
        value = state.value(name, field)
        if value is not None:
            objects.setdefault(name, []).append((field, value))
    return objects


def _reached(objects, roots):
    names = []
    met = {}
    _meet(roots, names, met)
    at = 0
    while at < len(names):
        _meet(_targets(objects.get(names[at], [])), names, met)
        at += 1
    return names


def _meet(found, names, met):
    """Put those names that were not met yet behind the others."""
    for name in found:
        if name not in met:
            met[name] = True
            names.append(name)


def _targets(fields):
    targets = [linked_name(value) for _, value in fields]
    return [target for target in targets if target is not None]


def _numbered_fields(fields, numbers):
    return [(field, _numbered_value(value, numbers)) for field, value in fields]


def _numbered_value(value, numbers):
    target = linked_name(value)
    if target is None:
        return value
    return ("ref", numbers[target])
