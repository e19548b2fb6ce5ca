"""Lazy peers: they hold a part of a state alone, and fetch more of it when it is wanted."""

from graphtwins.errors import NotHere
from graphtwins.graphs import reachable
from graphtwins.queries import Search
from graphtwins.states import State, joined
from graphtwins.values import linked_name


class LazyPeer:
    """A state, and the objects that are here, in the order in which they came."""

    def __init__(self):
        self.state = State()
        self.here = []

    def take_in(self, changes):
        """Take changes in, whether or not their objects are here; return how many made a difference."""
        many = 0
        for change in changes:
            if self.state.take(change):
                many += 1
        return many

    def fetch(self, state, names):
        """Make objects here, with their changes in a state; return those that were not here before, in order."""
        self.take_in(part_of(state, names))
        arrived = _places_behind(self.here, names)
        self.here.extend(arrived)
        return arrived

    def is_here(self, name):
        """Whether an object is here."""
        return name in self.here

    def value(self, name, field):
        """The value of a field of an object that is here, None if it was never set."""
        self._check_here(name)
        return self.state.value(name, field)

    def fields(self, name):
        """The fields of an object that is here that have values, by ascending fields."""
        self._check_here(name)
        return self.state.fields(name)

    def stubs(self):
        """The objects that are not here, to which fields of objects here refer, in the order in which they are met."""
        targets = _targets_by_name(self.state)
        met = []
        for name in self.here:
            met.extend(targets.get(name, []))
        return _places_behind(self.here, met)

    def forget(self, name):
        """Make an object a stub again, its fields stay in the state; return whether it was here."""
        if name not in self.here:
            return False
        self.here.remove(name)
        return True

    def _check_here(self, name):
        if not self.is_here(name):
            raise NotHere(name)


def part_of(state, names):
    """The changes of some objects, by ascending stamps."""
    wanted = {name: True for name in names}
    return [change for change in state.changes() if change[1] in wanted]


def fetch_all(lazy, state, roots, most):
    """Fetch roots, stubs, the stubs behind these and so on, at most so many objects; return how many were fetched."""
    names = _lacking_names(lazy, state, roots)
    return len(lazy.fetch(state, names[:max(most, 0)]))


def is_whole(lazy, roots):
    """Whether all objects that roots reach in the state of a lazy peer are here."""
    return _places_behind(lazy.here, reachable(lazy.state, roots)) == []


def merged(lazy, other):
    """A lazy peer with the join of both states, and the objects that are here in one of them."""
    both = LazyPeer()
    both.state = joined(lazy.state, other.state)
    both.here = lazy.here + _places_behind(lazy.here, other.here)
    return both


def _places_behind(here, names):
    """Those of some names that are not here, each once, in order."""
    search = Search(here + list(names))
    return search.places[len(here):]


def _lacking_names(lazy, state, roots):
    """The names that fetching all fetches, in order, if there is no bound."""
    targets_here = _targets_by_name(lazy.state)
    # An object that is fetched has the later ones of its fields here and there.
    targets_fetched = _targets_by_name(joined(lazy.state, state))
    # Stubs are met object by object in the order in which these came. So a search in breadth,
    # from the objects here and then the roots on, meets them round by round in their order.
    search = Search(lazy.here + list(roots))
    at = 0
    name = search.next_place()
    while name is not None:
        targets = targets_here if at < len(lazy.here) else targets_fetched
        for target in targets.get(name, []):
            search.meet(target, name, "")
        at += 1
        name = search.next_place()
    return search.places[len(lazy.here):]


def _targets_by_name(state):
    """For each object the names to which its fields refer, by ascending fields."""
    # Made once for all objects: asking the state object by object would go over all its cells
    # for each of them.
    targets = {}
    for name, field in sorted(state.cells):
        target = linked_name(state.value(name, field))
        if target is not None:
            targets.setdefault(name, []).append(target)
    return targets
