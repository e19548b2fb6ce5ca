"""[39] [40] Objects that no walk tells apart."""

import copy
import itertools
import random
import unittest

from graphtwins.classes import classes, smaller, telling_path


def ref(number):
    return ("ref", number)


def ring(many, first=0):
    """The objects of a ring, numbered from the first one on."""
    return [[("n", ref(first + (at + 1) % many))] for at in range(many)]


def row(many, first=0):
    """The objects of a row, each of which refers to the next one."""
    return [[("n", ref(first + at + 1))] for at in range(many - 1)] + [[]]


def look(fields):
    return [(field, "reference" if isinstance(value, tuple) else (value,)) for field, value in fields]


def led_by(graph, number, fields):
    """The object to which a row of fields leads, or None."""
    for field in fields:
        value = dict(graph[1][number]).get(field)
        if not isinstance(value, tuple):
            return None
        number = value[1]
    return number


def is_told_by(graph, one, other, fields):
    ends = led_by(graph, one, fields), led_by(graph, other, fields)
    return None not in ends and look(graph[1][ends[0]]) != look(graph[1][ends[1]])


def rows_up_to(longest, letters="ab"):
    """All rows of some fields, the shorter ones first, equally short ones in the order of lists."""
    for length in range(longest + 1):
        for fields in itertools.product(letters, repeat=length):
            yield list(fields)


def found_path(graph, one, other, letters="ab"):
    """The telling path, by trying all rows that are short enough to matter."""
    for fields in rows_up_to(len(graph[1]), letters):
        if is_told_by(graph, one, other, fields):
            return fields
    return None


def renumbered(graph):
    """The graph numbered from its roots on, as [8] says, written anew."""
    roots, objects = graph
    order = list(dict.fromkeys(roots))
    for number in order:
        for _, value in objects[number]:
            if isinstance(value, tuple) and value[1] not in order:
                order.append(value[1])
    place = {number: at for at, number in enumerate(order)}
    return ([place[root] for root in roots], [
        [(field, ref(place[value[1]]) if isinstance(value, tuple) else value) for field, value in objects[number]]
        for number in order
    ])


def some_graph(chance, most):
    """A graph by lot, numbered from its roots on, in which many objects have one look."""
    many = chance.randrange(1, most + 1)
    shapes = chance.choice([[["a", "b"]], [["a"], ["a", "b"], ["b"], []], [["a"]]])
    plain = chance.choice([0, 0, 1, 4])
    objects = []
    for _ in range(many):
        values = [1] * plain + [ref(chance.randrange(many)) for _ in range(8)]
        objects.append([(field, chance.choice(values)) for field in chance.choice(shapes)])
    if chance.randrange(3):
        objects[chance.randrange(many)].append(("x", 1))
    return renumbered(([chance.randrange(many) for _ in range(chance.randrange(1, 4))], objects))


class ClassesCase(unittest.TestCase):
    def test_no_object(self):
        self.assertEqual(classes(([], [])), [])

    def test_one_object(self):
        self.assertEqual(classes(([0], [[]])), [0])
        self.assertEqual(classes(([0], [[("me", ref(0))]])), [0])

    def test_equal_looks(self):
        self.assertEqual(classes(([0, 1, 2], [[], [], []])), [0, 0, 0])
        self.assertEqual(classes(([0, 1], [[("a", 1), ("b", "x")], [("a", 1), ("b", "x")]])), [0, 0])

    def test_unlike_looks(self):
        for one, other in (
            ([("a", 1)], [("a", 2)]), ([("a", 1)], [("b", 1)]), ([("a", 1)], []), ([("a", 1)], [("a", "x")]),
            ([("a", "")], [("a", 0)]), ([("a", 1)], [("a", 1), ("b", 1)]), ([("a", ref(0))], [("a", 0)]),
            ([("a", ref(0))], [("a", "ref")]), ([("a", ref(0))], [("b", ref(0))]), ([("a", ref(1))], [("a", -1)]),
        ):
            self.assertEqual(classes(([0, 1], [one, other])), [0, 1])
            self.assertEqual(classes(([0, 1], [other, one])), [0, 1])

    def test_references_look_alike(self):
        self.assertEqual(classes(([0, 1], [[("a", ref(0))], [("a", ref(1))]])), [0, 0])
        self.assertEqual(classes(([0, 1], [[("a", ref(1))], [("a", ref(0))]])), [0, 0])

    def test_references_to_objects_that_are_told_apart(self):
        self.assertEqual(classes(([0, 1, 2, 3], [[("a", ref(2))], [("a", ref(3))], [("n", 1)], [("n", 2)]])), [0, 1, 2, 3])
        self.assertEqual(classes(([0, 1, 2, 3], [[("a", ref(2))], [("a", ref(3))], [("n", 1)], [("n", 1)]])), [0, 0, 2, 2])

    def test_rings_of_other_lengths(self):
        self.assertEqual(classes(([0, 2], ring(2) + ring(3, 2))), [0] * 5)
        self.assertEqual(classes(([0, 1], ring(1) + ring(7, 1))), [0] * 8)

    def test_rings_with_a_mark(self):
        marked = [[("n", ref(1)), ("x", 5)], [("n", ref(2))], [("n", ref(3)), ("x", 5)], [("n", ref(0))]]
        self.assertEqual(classes(([0], marked)), [0, 1, 0, 1])
        marked[2] = [("n", ref(3)), ("x", 6)]
        self.assertEqual(classes(([0], marked)), [0, 1, 2, 3])

    def test_only_a_long_row_tells_them_apart(self):
        self.assertEqual(classes(([0], row(50))), list(range(50)))
        self.assertEqual(classes(([0, 50], row(50) + row(50, 50))), list(range(50)) * 2)
        self.assertEqual(classes(([0, 50], row(50) + row(51, 50))), list(range(50)) + [50] + list(range(50)))

    def test_the_least_number_counts(self):
        graph = ([0], [[("a", ref(1)), ("b", ref(2)), ("c", ref(3)), ("d", ref(4))], [("n", 1)], [], [("n", 1)], []])
        self.assertEqual(classes(graph), [0, 1, 2, 1, 2])

    def test_against_all_rows(self):
        chance = random.Random(39)
        fewer = 0
        for _ in range(250):
            graph = some_graph(chance, 6)
            told = classes(graph)
            for one in range(len(graph[1])):
                twins = [other for other in range(one + 1) if found_path(graph, one, other) is None]
                self.assertEqual(told[one], twins[0], graph)
            fewer += len(set(told)) < len(told)
        self.assertGreater(fewer, 50)

    def test_large_graphs(self):
        # A long row is the worst case of looking at all objects again for each step of it.
        many = 8000
        self.assertEqual(classes(([0], row(many))), list(range(many)))
        self.assertEqual(classes(([0, many], row(many) + row(many, many))), list(range(many)) * 2)
        self.assertEqual(classes(([0], ring(many))), [0] * many)

    def test_nothing_is_changed_and_the_list_is_new(self):
        graph = ([0, 2], ring(2) + ring(3, 2))
        before = copy.deepcopy(graph)
        classes(graph).clear()
        self.assertEqual(classes(graph), [0] * 5)
        self.assertEqual(graph, before)


class SmallerCase(unittest.TestCase):
    def test_no_object(self):
        self.assertEqual(smaller(([], [])), ([], []))

    def test_what_is_told_apart_stays(self):
        for graph in (
            ([0], [[]]), ([0, 0], [[("a", 1), ("b", "x"), ("me", ref(0))]]), ([0], row(20)), ([0, 1, 0], [[("n", 1)], []]),
        ):
            self.assertEqual(smaller(graph), graph)

    def test_rings(self):
        self.assertEqual(smaller(([0], ring(5))), ([0], ring(1)))
        self.assertEqual(smaller(([0, 2], ring(2) + ring(3, 2))), ([0, 0], ring(1)))
        marked = [[("n", ref(1)), ("x", 5)], [("n", ref(2))], [("n", ref(3)), ("x", 5)], [("n", ref(0))]]
        self.assertEqual(smaller(([0], marked)), ([0], [[("n", ref(1)), ("x", 5)], [("n", ref(0))]]))

    def test_roots_that_fall_together(self):
        self.assertEqual(smaller(([0, 1, 2, 1], [[], [("a", 1)], []])), ([0, 1, 0, 1], [[], [("a", 1)]]))
        self.assertEqual(smaller(([0, 1, 2], [[], [], []])), ([0, 0, 0], [[]]))

    def test_shared_and_equal_objects(self):
        apart = ([0], [[("a", ref(1)), ("b", ref(2))], [("n", 1)], [("n", 1)]])
        self.assertEqual(smaller(apart), ([0], [[("a", ref(1)), ("b", ref(1))], [("n", 1)]]))

    def test_numbered_anew(self):
        graph = ([0, 1], [
            [("a", ref(2)), ("b", ref(3))], [("a", ref(4))], [("n", 2)], [("n", 2)], [("n", 2), ("z", ref(5))], [],
        ])
        self.assertEqual(smaller(graph), ([0, 1], [
            [("a", ref(2)), ("b", ref(2))], [("a", ref(3))], [("n", 2)], [("n", 2), ("z", ref(4))], [],
        ]))
        # The least object of a class refers to others than the one by which the class is met.
        graph = ([0], [
            [("a", ref(1)), ("b", ref(2))], [("x", ref(3)), ("y", ref(4))], [("x", ref(4)), ("y", ref(3))],
            [("n", 1)], [("n", 1)],
        ])
        self.assertEqual(smaller(graph), ([0], [[("a", ref(1)), ("b", ref(1))], [("x", ref(2)), ("y", ref(2))], [("n", 1)]]))

    def test_graphs_by_lot(self):
        chance = random.Random(40)
        for _ in range(250):
            graph = some_graph(chance, 7)
            less = smaller(graph)
            self.assertEqual(len(less[1]), len(set(classes(graph))))
            self.assertEqual(less, renumbered(less))
            self.assertEqual(len(less[0]), len(graph[0]))
            for root, less_root in zip(graph[0], less[0]):
                for fields in rows_up_to(6):
                    end, less_end = led_by(graph, root, fields), led_by(less, less_root, fields)
                    self.assertEqual(end is None, less_end is None)
                    if end is not None:
                        self.assertEqual(look(graph[1][end]), look(less[1][less_end]))
            self.assertEqual(classes(less), list(range(len(less[1]))))
            self.assertEqual(smaller(less), less)

    def test_large_graphs(self):
        many = 8000
        self.assertEqual(smaller(([0, many], row(many) + row(many, many))), ([0, 0], row(many)))
        self.assertEqual(smaller(([0], ring(many))), ([0], ring(1)))

    def test_nothing_is_changed_and_the_lists_are_new(self):
        graph = ([0], row(4))
        before = copy.deepcopy(graph)
        told = smaller(graph)
        for fields in told[1]:
            fields.clear()
        told[0].clear()
        told[1].clear()
        self.assertEqual(graph, before)
        self.assertEqual(smaller(graph), before)


class TellingPathCase(unittest.TestCase):
    def test_an_object_and_itself(self):
        graph = ([0], row(3))
        for number in range(3):
            self.assertIsNone(telling_path(graph, number, number))

    def test_objects_of_one_class(self):
        graph = ([0, 2], ring(2) + ring(3, 2))
        for one in range(5):
            for other in range(5):
                self.assertIsNone(telling_path(graph, one, other))

    def test_unlike_looks(self):
        graph = ([0, 1, 2], [[("a", 1)], [("a", 2)], [("a", ref(0))]])
        for one, other in itertools.permutations(range(3), 2):
            self.assertEqual(telling_path(graph, one, other), [])

    def test_longer_rows(self):
        graph = ([0], row(20))
        self.assertEqual(telling_path(graph, 0, 1), ["n"] * 18)
        self.assertEqual(telling_path(graph, 17, 3), ["n"] * 2)
        self.assertEqual(telling_path(graph, 19, 0), [])

    def test_the_shortest_one_counts_first(self):
        graph = ([0, 1], [
            [("a", ref(2)), ("b", ref(4))], [("a", ref(3)), ("b", ref(5))],
            [("c", ref(4))], [("c", ref(5))], [("n", 1)], [("n", 2)],
        ])
        self.assertEqual(telling_path(graph, 0, 1), ["b"])
        self.assertEqual(telling_path(graph, 1, 0), ["b"])

    def test_of_equally_short_ones_the_first_in_the_order_of_lists(self):
        graph = ([0, 1], [
            [("a", ref(2)), ("b", ref(3)), ("c", ref(4))], [("a", ref(2)), ("b", ref(4)), ("c", ref(3))],
            [], [("n", 1)], [("n", 2)],
        ])
        self.assertEqual(telling_path(graph, 0, 1), ["b"])
        # By a and y, and by b and x, which stands behind it as a list, but whose last field does not.
        graph = ([0, 1], [
            [("a", ref(2)), ("b", ref(4))], [("a", ref(3)), ("b", ref(5))],
            [("x", ref(6)), ("y", ref(7))], [("x", ref(6)), ("y", ref(8))],
            [("x", ref(7)), ("y", ref(6))], [("x", ref(8)), ("y", ref(6))],
            [], [("n", 1)], [("n", 2)],
        ])
        self.assertEqual(telling_path(graph, 0, 1), ["a", "y"])

    def test_a_row_that_leads_from_one_object_only_does_not_tell(self):
        graph = ([0, 1], [[("a", ref(2)), ("b", ref(2))], [("a", ref(3)), ("b", ref(3))], [("c", ref(0))], [("c", 1)]])
        self.assertEqual(telling_path(graph, 0, 1), ["a"])

    def test_against_all_rows(self):
        chance = random.Random(41)
        longest = 0
        for _ in range(250):
            graph = some_graph(chance, 6)
            for one in range(len(graph[1])):
                for other in range(len(graph[1])):
                    expected = found_path(graph, one, other)
                    self.assertEqual(telling_path(graph, one, other), expected, (graph, one, other))
                    longest = max(longest, len(expected or []))
        self.assertGreater(longest, 2)

    def test_rings_with_marks_by_lot(self):
        # Rings of several lengths: here the same pairs of groups are met again and again.
        chance = random.Random(42)
        for _ in range(300):
            one, other = chance.randrange(1, 5), chance.randrange(1, 6)
            objects = [
                [("a", ref(base + (at + 1) % many)), ("b", ref(base + chance.randrange(many)))]
                for base, many in ((0, one), (one, other)) for at in range(many)
            ]
            if chance.randrange(4):
                objects[chance.randrange(one + other)].append(("x", 1))
            graph = ([0, one], objects)
            self.assertEqual(telling_path(graph, 0, one), found_path(graph, 0, one), graph)

    def test_large_graphs(self):
        many = 5000
        graph = ([0, many], ring(many) + ring(many + 1, many))
        self.assertIsNone(telling_path(graph, 0, many))
        graph = ([0, many], row(many) + row(many + 1, many))
        self.assertEqual(telling_path(graph, 0, many), ["n"] * (many - 1))

    def test_nothing_is_changed_and_the_list_is_new(self):
        graph = ([0], row(5))
        before = copy.deepcopy(graph)
        telling_path(graph, 0, 1).clear()
        self.assertEqual(telling_path(graph, 0, 1), ["n"] * 3)
        self.assertEqual(graph, before)


if __name__ == "__main__":
    unittest.main()
