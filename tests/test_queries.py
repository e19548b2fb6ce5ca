"""[37] [38] Path questions: steps, values, shortest paths."""

import copy
import itertools
import random
import unittest

from graphtwins.queries import closure, follow, path_to, values_at

ANY = ("any",)
ROWS = ("rows",)


def by(field):
    return ("field", field)


def ref(number):
    return ("ref", number)


# A ring 0 - 1 - 3 - 0, a reference to itself at 2, a shared object 4, one without fields, 5,
# one that only the second root reaches, 6.
GRAPH = ([0, 6], [
    [("a", ref(1)), ("b", ref(2)), ("n", 7), ("s", ref(4))],
    [("n", -1), ("next", ref(3)), ("s", ref(4))],
    [("me", ref(2)), ("s", ref(5)), ("t", "text")],
    [("n", 0), ("next", ref(0))],
    [("n", ""), ("t", "x")],
    [],
    [("a", ref(4)), ("n", "seven")],
])


def some_graph(chance, most):
    """A graph by lot, numbered as it comes."""
    many = chance.randrange(1, most + 1)
    objects = []
    for _ in range(many):
        fields = sorted(chance.sample(["a", "b", "c", "d"], chance.randrange(5)))
        values = [1, "x", ref(chance.randrange(many)), ref(chance.randrange(many)), ref(chance.randrange(many))]
        objects.append([(field, chance.choice(values)) for field in fields])
    return ([0], objects)


def led_by(graph, number, row):
    """The object to which a row of fields leads, or None."""
    for field in row:
        value = dict(graph[1][number]).get(field)
        if not isinstance(value, tuple):
            return None
        number = value[1]
    return number


def rows_up_to(longest):
    """All rows of the fields a to d, the shorter ones first, equally short ones in the order of lists."""
    for length in range(longest + 1):
        for row in itertools.product("abcd", repeat=length):
            yield list(row)


class FollowCase(unittest.TestCase):
    def test_no_step(self):
        self.assertEqual(follow(GRAPH, [3], []), [3])
        self.assertEqual(follow(GRAPH, [5, 0, 3, 0, 5], []), [0, 3, 5])
        self.assertEqual(follow(GRAPH, [], []), [])

    def test_no_object(self):
        for steps in ([ANY], [ROWS], [by("a")], [ROWS, by("n"), ANY]):
            self.assertEqual(follow(GRAPH, [], steps), [])
        self.assertEqual(follow(([], []), [], [ROWS]), [])

    def test_by_a_field(self):
        self.assertEqual(follow(GRAPH, [0], [by("a")]), [1])
        self.assertEqual(follow(GRAPH, [0], [by("b")]), [2])
        self.assertEqual(follow(GRAPH, [6, 0], [by("a")]), [1, 4])
        self.assertEqual(follow(GRAPH, [2, 1, 0], [by("s")]), [4, 5])

    def test_by_a_field_that_leads_nowhere(self):
        self.assertEqual(follow(GRAPH, [0], [by("c")]), [])
        self.assertEqual(follow(GRAPH, [0, 1, 3, 4, 6], [by("n")]), [])
        self.assertEqual(follow(GRAPH, [5], [by("a")]), [])
        self.assertEqual(follow(GRAPH, [0, 1, 2, 3, 4, 5, 6], [by("ne")]), [])
        self.assertEqual(follow(GRAPH, [0], [by("c"), ROWS]), [])
        self.assertEqual(follow(GRAPH, [0], [by("a"), by("a"), by("a")]), [])

    def test_by_any_field(self):
        self.assertEqual(follow(GRAPH, [0], [ANY]), [1, 2, 4])
        self.assertEqual(follow(GRAPH, [4, 5], [ANY]), [])
        self.assertEqual(follow(GRAPH, [2], [ANY]), [2, 5])
        self.assertEqual(follow(GRAPH, [3, 6], [ANY]), [0, 4])

    def test_by_any_number_of_fields(self):
        self.assertEqual(follow(GRAPH, [0], [ROWS]), [0, 1, 2, 3, 4, 5])
        self.assertEqual(follow(GRAPH, [2], [ROWS]), [2, 5])
        self.assertEqual(follow(GRAPH, [5], [ROWS]), [5])
        self.assertEqual(follow(GRAPH, [6], [ROWS]), [4, 6])
        self.assertEqual(follow(GRAPH, [6, 5], [ROWS]), [4, 5, 6])

    def test_steps_one_behind_the_other(self):
        self.assertEqual(follow(GRAPH, [0], [by("a"), by("next"), by("next")]), [0])
        self.assertEqual(follow(GRAPH, [0], [by("a"), by("next"), by("next"), by("b"), by("me"), by("me")]), [2])
        self.assertEqual(follow(GRAPH, [0], [ANY, ANY]), [2, 3, 4, 5])
        self.assertEqual(follow(GRAPH, [0], [ANY, by("s")]), [4, 5])
        self.assertEqual(follow(GRAPH, [6], [ROWS, by("a")]), [4])
        self.assertEqual(follow(GRAPH, [2], [ROWS, by("s"), ROWS]), [5])
        self.assertEqual(follow(GRAPH, [3], [ROWS, ANY]), [0, 1, 2, 3, 4, 5])
        self.assertEqual(follow(GRAPH, [4, 6], [ROWS, ANY]), [4])

    def test_fields_with_the_names_of_steps(self):
        graph = ([0], [
            [("any", ref(1)), ("field", ref(2)), ("rows", ref(3)), ("x", ref(4))], [("x", ref(0))], [], [("x", ref(0))], [],
        ])
        self.assertEqual(follow(graph, [0], [by("any")]), [1])
        self.assertEqual(follow(graph, [0], [by("field")]), [2])
        self.assertEqual(follow(graph, [0], [by("rows")]), [3])
        self.assertEqual(follow(graph, [0], [ANY]), [1, 2, 3, 4])
        self.assertEqual(follow(graph, [0], [ROWS]), [0, 1, 2, 3, 4])

    def test_numbers_in_any_order_and_several_times(self):
        for numbers in itertools.product([0, 2, 6], repeat=4):
            for steps in ([], [ANY], [ROWS], [by("a")], [ANY, by("s")]):
                self.assertEqual(follow(GRAPH, list(numbers), steps), follow(GRAPH, sorted(set(numbers)), steps))

    def test_all_steps_against_rows_of_fields(self):
        chance = random.Random(37)
        kinds = [by("a"), by("b"), by("c"), ANY, ROWS]
        for _ in range(300):
            graph = some_graph(chance, 6)
            many = len(graph[1])
            numbers = [chance.randrange(many) for _ in range(chance.randrange(4))]
            steps = [chance.choice(kinds) for _ in range(chance.randrange(4))]
            reached = set(numbers)
            for step in steps:
                if step == ROWS:
                    for _ in range(many):
                        reached |= {led_by(graph, number, field) for number in reached for field in "abcd"} - {None}
                else:
                    fields = "abcd" if step == ANY else step[1]
                    reached = {led_by(graph, number, field) for number in reached for field in fields} - {None}
            self.assertEqual(follow(graph, numbers, steps), sorted(reached))

    def test_nothing_is_changed_and_the_list_is_new(self):
        graph, numbers, steps = copy.deepcopy(GRAPH), [3, 0, 3], [ROWS, by("a")]
        for told in (follow(graph, numbers, steps), follow(graph, numbers, []), closure(graph, numbers)):
            told.clear()
        self.assertEqual((graph, numbers, steps), (GRAPH, [3, 0, 3], [ROWS, by("a")]))
        ascending = [0, 3]
        follow(graph, ascending, []).clear()
        self.assertEqual(ascending, [0, 3])


class ClosureCase(unittest.TestCase):
    def test_objects_themselves_belong_to_it(self):
        self.assertEqual(closure(GRAPH, [5]), [5])
        self.assertEqual(closure(GRAPH, [4, 4]), [4])

    def test_no_object(self):
        self.assertEqual(closure(GRAPH, []), [])

    def test_rings_references_to_oneself_and_shared_objects(self):
        self.assertEqual(closure(GRAPH, [3]), [0, 1, 2, 3, 4, 5])
        self.assertEqual(closure(GRAPH, [2]), [2, 5])
        self.assertEqual(closure(GRAPH, [6]), [4, 6])

    def test_numbers_in_any_order_and_several_times(self):
        self.assertEqual(closure(GRAPH, [6, 2, 6, 2]), [2, 4, 5, 6])
        self.assertEqual(closure(GRAPH, [6, 5, 4, 3, 2, 1, 0]), [0, 1, 2, 3, 4, 5, 6])

    def test_a_long_row(self):
        many = 20000
        graph = ([0], [[("a", ref(number + 1))] for number in range(many)] + [[]])
        self.assertEqual(closure(graph, [5, 3]), list(range(3, many + 1)))


class ValuesCase(unittest.TestCase):
    def test_objects_without_the_field_are_left_out(self):
        self.assertEqual(values_at(GRAPH, [0], [ROWS], "n"), [(0, 7), (1, -1), (3, 0), (4, "")])
        self.assertEqual(values_at(GRAPH, [0], [ROWS], "t"), [(2, "text"), (4, "x")])
        self.assertEqual(values_at(GRAPH, [0, 6], [ROWS], "absent"), [])
        self.assertEqual(values_at(GRAPH, [5], [], "n"), [])

    def test_references_are_told_like_other_values(self):
        self.assertEqual(values_at(GRAPH, [0], [ROWS], "s"), [(0, ref(4)), (1, ref(4)), (2, ref(5))])
        self.assertEqual(values_at(GRAPH, [6], [], "a"), [(6, ref(4))])

    def test_without_steps_and_objects(self):
        self.assertEqual(values_at(GRAPH, [6, 3, 0, 3, 6], [], "n"), [(0, 7), (3, 0), (6, "seven")])
        self.assertEqual(values_at(GRAPH, [], [ROWS], "n"), [])

    def test_behind_steps(self):
        self.assertEqual(values_at(GRAPH, [6, 0], [by("a")], "n"), [(1, -1), (4, "")])
        self.assertEqual(values_at(GRAPH, [0], [by("a"), by("next")], "next"), [(3, ref(0))])
        self.assertEqual(values_at(GRAPH, [0], [by("n")], "n"), [])

    def test_nothing_is_changed(self):
        graph, numbers, steps = copy.deepcopy(GRAPH), [6, 0], [ANY]
        values_at(graph, numbers, steps, "n").clear()
        self.assertEqual((graph, numbers, steps), (GRAPH, [6, 0], [ANY]))


class PathCase(unittest.TestCase):
    def test_from_an_object_to_itself(self):
        for number in range(7):
            self.assertEqual(path_to(GRAPH, number, number), [])

    def test_paths(self):
        self.assertEqual(path_to(GRAPH, 0, 1), ["a"])
        self.assertEqual(path_to(GRAPH, 0, 3), ["a", "next"])
        self.assertEqual(path_to(GRAPH, 3, 5), ["next", "b", "s"])
        self.assertEqual(path_to(GRAPH, 1, 0), ["next", "next"])
        self.assertEqual(path_to(GRAPH, 1, 4), ["s"])

    def test_none(self):
        for start, goal in ((0, 6), (5, 0), (4, 5), (2, 0), (2, 4), (6, 0)):
            self.assertIsNone(path_to(GRAPH, start, goal))

    def test_the_shortest_one_counts_first(self):
        graph = ([0], [[("a", ref(1)), ("z", ref(2))], [("a", ref(2))], []])
        self.assertEqual(path_to(graph, 0, 2), ["z"])

    def test_of_equally_short_ones_the_first_in_the_order_of_lists(self):
        graph = ([0], [[("a", ref(1)), ("b", ref(1)), ("c", ref(1))], []])
        self.assertEqual(path_to(graph, 0, 1), ["a"])
        # By the field z the goal is met from the object that is met first; by a from the other one.
        graph = ([0], [[("a", ref(1)), ("b", ref(2))], [("z", ref(3))], [("a", ref(3))], []])
        self.assertEqual(path_to(graph, 0, 3), ["a", "z"])
        # The objects are not met in the order of the letters of the fields that lead to them.
        graph = ([0, 1, 2, 3], [[("m", ref(2)), ("n", ref(1))], [("a", ref(3))], [("b", ref(3))], []])
        self.assertEqual(path_to(graph, 0, 3), ["m", "b"])
        self.assertEqual(path_to(graph, 1, 3), ["a"])
        graph = ([0], [
            [("aa", ref(1)), ("b", ref(2))], [("b", ref(3))], [("a", ref(4))], [("z", ref(5))], [("a", ref(5))], [],
        ])
        self.assertEqual(path_to(graph, 0, 5), ["aa", "b", "z"])

    def test_fields_are_compared_as_texts_not_by_their_letters_put_together(self):
        graph = ([0], [[("a", ref(1)), ("ab", ref(2))], [("z", ref(3))], [("a", ref(3))], []])
        self.assertEqual(path_to(graph, 0, 3), ["a", "z"])

    def test_against_all_rows_of_fields(self):
        chance = random.Random(38)
        for _ in range(150):
            graph = some_graph(chance, 5)
            many = len(graph[1])
            for start in range(many):
                firsts = {}
                for row in rows_up_to(many - 1):
                    firsts.setdefault(led_by(graph, start, row), row)
                for goal in range(many):
                    self.assertEqual(path_to(graph, start, goal), firsts.get(goal))

    def test_a_long_row(self):
        many = 20000
        graph = ([0], [[("a", ref(number + 1)), ("b", ref(0))] for number in range(many)] + [[]])
        self.assertEqual(path_to(graph, 0, many), ["a"] * many)
        self.assertEqual(path_to(graph, many - 1, 1), ["b", "a"])

    def test_nothing_is_changed_and_the_list_is_new(self):
        graph = copy.deepcopy(GRAPH)
        path_to(graph, 0, 3).clear()
        self.assertEqual(path_to(graph, 0, 3), ["a", "next"])
        self.assertEqual(graph, GRAPH)


if __name__ == "__main__":
    unittest.main()
