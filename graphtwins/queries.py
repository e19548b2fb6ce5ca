"""Path questions: where fields lead in a graph."""

from graphtwins.values import linked_name


class Search:
    """A search in breadth: the places that it met, in order, each once, and how it came to each."""

    def __init__(self, starts):
        self.places = []
        self.came = {}
        self.at = 0
        for place in starts:
            self.meet(place, None, "")

    def meet(self, place, before, field):
        """Put a place, to which a field leads from the one before, behind the others, if it was not met yet."""
        if place not in self.came:
            self.came[place] = (before, field)
            self.places.append(place)

    def next_place(self):
        """The next place to look at, None behind the last one."""
        if self.at == len(self.places):
            return None
        self.at += 1
        return self.places[self.at - 1]

    def row_to(self, place):
        """The row of fields by which the search came to a place."""
        row = []
        before, field = self.came[place]
        while before is not None:
            row.append(field)
            before, field = self.came[before]
        row.reverse()
        return row


def follow(graph, numbers, steps):
    """The numbers of the objects to which steps lead from some objects, ascending."""
    reached = sorted(set(numbers))
    for step in steps:
        reached = _reached_by(graph, reached, step)
    return reached


def closure(graph, numbers):
    """The numbers of the objects to which any number of fields leads, ascending."""
    search = Search(numbers)
    number = search.next_place()
    while number is not None:
        for field, target in links_of(graph, number):
            search.meet(target, number, field)
        number = search.next_place()
    return sorted(search.places)


def values_at(graph, numbers, steps, field):
    """The tuples (number, value) of a field, for the objects to which steps lead, ascending."""
    _, objects = graph
    told = []
    for number in follow(graph, numbers, steps):
        told.extend([(number, value) for name, value in objects[number] if name == field])
    return told


def path_to(graph, start, goal):
    """The shortest path from one object to another one, a list of fields, or None."""
    search = Search([start])
    number = search.next_place()
    # Places are met in the order of their paths: shorter ones first, and equally short ones in
    # the order of lists, since fields ascend. So the first path found is the one asked for.
    while number is not None and number != goal:
        for field, target in links_of(graph, number):
            search.meet(target, number, field)
        number = search.next_place()
    if number is None:
        return None
    return search.row_to(number)


def links_of(graph, number):
    """The fields of an object that refer to objects, tuples (field, number), by ascending fields."""
    _, objects = graph
    links = [(field, linked_name(value)) for field, value in objects[number]]
    return [(field, target) for field, target in links if target is not None]


def _reached_by(graph, numbers, step):
    """The numbers of the objects to which a single step leads, ascending."""
    if step[0] == "rows":
        return closure(graph, numbers)
    reached = {}
    for number in numbers:
        for field, target in links_of(graph, number):
            if step[0] == "any" or step[1] == field:
                reached[target] = True
    return sorted(reached)
