"""Watches: where paths lead in a state, and news of them in another one."""

from graphtwins.values import ROOT, linked_name, reference


class Watcher:
    """Watches paths in a state."""

    def __init__(self, state):
        self.state = state
        self.paths = []
        # For each watched path the value that was told last.
        self.told = []

    def watch(self, path):
        """Watch a path; return the value to which it leads."""
        value = value_at(self.state, path)
        self.paths.append(list(path))
        self.told.append(value)
        return value

    def news(self, state):
        """Go on to a state; return (path, old value, new value) of each path that leads to another value there."""
        values = [value_at(state, path) for path in self.paths]
        news = [
            (list(path), value, new_value)
            for path, value, new_value in zip(self.paths, self.told, values) if new_value != value
        ]
        self.state = state
        self.told = values
        return news

    def touched(self, changes):
        """The indexes of the paths that hang on a cell that one of some changes sets, ascending."""
        cells = {(name, field): True for _, name, field, _ in changes}
        return [
            at for at, path in enumerate(self.paths)
            if any([cell in cells for cell in cells_of(self.state, path)])
        ]


def follow(state, path):
    """The reference to the root and the values that are met, as far as the path leads on."""
    values = [reference(ROOT)]
    for field in path:
        name = linked_name(values[-1])
        if name is None:
            return values
        values.append(state.value(name, field))
    return values


def value_at(state, path):
    """The value to which a path leads, None if not each of its fields was followed."""
    values = follow(state, path)
    if len(values) <= len(path):
        return None
    return values[-1]


def cells_of(state, path):
    """The cells (name, field) that are asked while a path is followed, in order, each as often as it is asked."""
    names = [linked_name(value) for value in follow(state, path)]
    # Behind a value that is no reference no field is asked; behind the last value there is none.
    return [(name, field) for name, field in zip(names, path) if name is not None]
