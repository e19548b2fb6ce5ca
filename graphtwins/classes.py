"""Objects that no walk tells apart, and the smaller graph without such."""

from graphtwins.graphs import numbered
from graphtwins.queries import Search
from graphtwins.states import State
from graphtwins.values import linked_name


class Blocks:
    """Objects in blocks, which are split until no field leads out of one block into several."""

    def __init__(self, objects):
        self.block_of = []
        self.members = []
        self.sources = [[] for _ in objects]
        by_look = {}
        for number, fields in enumerate(objects):
            block = by_look.setdefault(look_of(fields), len(by_look))
            if block == len(self.members):
                self.members.append({})
            self.members[block][number] = True
            self.block_of.append(block)
            for field, value in fields:
                if linked_name(value) is not None:
                    self.sources[linked_name(value)].append((field, number))

    def refine(self):
        """Split the blocks until no walk tells objects of one block apart."""
        waiting = list(range(len(self.members)))
        while waiting:
            rows = self._rows_into(waiting.pop())
            for row in rows:
                waiting.extend(self._split(row))

    def least(self):
        """For each object the least number of its block."""
        least = [min(members) for members in self.members]
        return [least[block] for block in self.block_of]

    def _rows_into(self, block):
        """For each field the list of the objects from which it leads into a block."""
        rows = {}
        for number in self.members[block]:
            for field, source in self.sources[number]:
                rows.setdefault(field, []).append(source)
        return list(rows.values())

    def _split(self, row):
        """Split the blocks of which a row has some objects, but not all; return the new blocks."""
        parts = {}
        for number in row:
            parts.setdefault(self.block_of[number], []).append(number)
        fresh = []
        for block, part in parts.items():
            if len(part) < len(self.members[block]):
                fresh.append(self._split_off(block, part))
        return fresh

    def _split_off(self, block, part):
        """Split a block into a part and the rest; return the new block."""
        moved = part
        # The new block is the smaller half. As the whole block was or will be looked at, it is
        # enough to look at this half, so that no object is looked at often.
        if 2 * len(part) > len(self.members[block]):
            kept = {number: True for number in part}
            moved = [number for number in self.members[block] if number not in kept]
        fresh = len(self.members)
        self.members.append({number: True for number in moved})
        for number in moved:
            del self.members[block][number]
            self.block_of[number] = fresh
        return fresh


class Unions:
    """Groups of objects, which grow together."""

    def __init__(self):
        self.above = {}

    def unite(self, one, other):
        """Make the groups of two objects one; return whether they were two."""
        one_head = self._head(one)
        other_head = self._head(other)
        self.above[one_head] = other_head
        return one_head != other_head

    def _head(self, number):
        head = number
        while self.above.get(head, head) != head:
            # Each object is put nearer to the head on the way, so that the ways stay short.
            higher = self.above[head]
            self.above[head] = self.above.get(higher, higher)
            head = self.above[head]
        return head


def classes(graph):
    """For each object the least number of an object of its class."""
    _, objects = graph
    blocks = Blocks(objects)
    blocks.refine()
    return blocks.least()


def smaller(graph):
    """The graph with one object in place of all of a class, numbered anew from the roots on."""
    roots, objects = graph
    class_of = classes(graph)
    # As a state, in which each class is an object, it is numbered like any other one.
    state = State()
    clock = 0
    for number in sorted(set(class_of)):
        for field, value in objects[number]:
            clock += 1
            state.take(((clock, 0), (0, number), field, _class_value(value, class_of)))
    return numbered(state, [(0, class_of[root]) for root in roots])


def telling_path(graph, one, other):
    """The first of the shortest rows of fields that tells two objects apart, or None."""
    _, objects = graph
    unions = Unions()
    search = Search([(one, other)])
    pair = search.next_place()
    while pair is not None:
        left, right = objects[pair[0]], objects[pair[1]]
        if look_of(left) != look_of(right):
            return search.row_to(pair)
        for field, behind in _pairs_behind(left, right):
            # A row that tells objects of one group apart also tells apart a pair that was met
            # earlier, by which they came into one group. So this pair need not be looked at.
            if unions.unite(behind[0], behind[1]):
                search.meet(behind, pair, field)
        pair = search.next_place()
    return None


def look_of(fields):
    """The look of an object, None in place of references."""
    return tuple([(field, value if linked_name(value) is None else None) for field, value in fields])


def _class_value(value, class_of):
    target = linked_name(value)
    if target is None:
        return value
    return ("ref", (0, class_of[target]))


def _pairs_behind(left, right):
    """The pairs to which fields lead from two objects of one look, tuples (field, pair)."""
    pairs = []
    for (field, value), (_, twin) in zip(left, right):
        if linked_name(value) is not None:
            pairs.append((field, (linked_name(value), linked_name(twin))))
    return pairs
