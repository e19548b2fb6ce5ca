"""[11] [12] [13] Octets of graphs."""

import copy
import random
import unittest

from graphtwins.errors import CodeError
from graphtwins.graphs import are_alike, numbered
from graphtwins.octets import graph_octets, number_octets, read_graph, word_octets
from graphtwins.states import State

ROOT = (0, 0)

# The octets of the integer 0: its kind, and 1000000 in three octets.
ZERO = [1, 15, 66, 64]


def codes(text):
    return [ord(letter) for letter in text]


def word(text):
    return [len(text)] + codes(text)


def one_object(*fields):
    """The octets of a graph with one root, from octets of its fields."""
    return [1, 0, 0] + [octet for field in fields for octet in field] + [0]


def ref(number):
    return ("ref", number)


# Graphs with the octets that [12] gives them, written by hand.
WRITTEN = [
    (([], []), [0]),
    (([0], [[]]), [1, 0, 0, 0]),
    (([0, 0], [[]]), [2, 0, 0, 0, 0, 0]),
    (([0, 1, 0], [[], []]), [3, 0, 0, 0, 1, 0, 0, 0, 0]),
    (([0], [[("a", 0)]]), one_object([1, 97, 1, 15, 66, 64])),
    (([0], [[("a", -1000000)]]), one_object([1, 97, 1, 0, 0, 0])),
    (([0], [[("a", 1000000)]]), one_object([1, 97, 1, 30, 132, 128])),
    (([0], [[("a", -1)]]), one_object([1, 97, 1, 15, 66, 63])),
    (([0], [[("a", "")]]), one_object([1, 97, 2, 0])),
    (([0], [[("a", "xyz")]]), one_object([1, 97, 2, 3, 120, 121, 122])),
    (
        ([0], [[("a", "abcdefghijklmnopqrst")]]),
        one_object([1, 97, 2, 20] + list(range(97, 117))),
    ),
    (([0], [[("a", ("ref", 0))]]), one_object([1, 97, 3, 0, 0])),
    (
        ([0], [[("abcdefgh", 1), ("z", 2)]]),
        one_object([8, 97, 98, 99, 100, 101, 102, 103, 104, 1, 15, 66, 65], [1, 122, 1, 15, 66, 66]),
    ),
    (
        ([0, 1], [[("a", ("ref", 2)), ("b", ("ref", 1))], [], [("c", ("ref", 0))]]),
        [2, 0, 0, 0, 1, 1, 97, 3, 0, 2, 1, 98, 3, 0, 1, 0, 0, 1, 99, 3, 0, 0, 0],
    ),
]

# Graphs with all kinds of octets, among them fields that stand close to each other in order.
SAMPLES = [
    ([], []),
    ([0], [[]]),
    ([0, 1, 0, 2, 1], [[], [], []]),
    ([0], [[("a", 1000000), ("b", -1000000), ("c", 983040), ("d", 999936)]]),
    ([0], [[("a", ""), ("ab", "z"), ("abc", "abz"), ("az", "zzzzzzzzzzzzzzzzzzzz")]]),
    ([0], [[("y", 5), ("z", 5), ("zy", 6), ("zz", 7), ("zza", 8), ("zzz", 9)], ]),
    ([0], [[("azz", ""), ("azza", ""), ("b", ""), ("zzzzzzzy", ""), ("zzzzzzzz", "")]]),
    ([0, 1], [[("a", ref(2)), ("b", ref(0)), ("c", ref(3))], [("a", ref(3)), ("m", ref(1))], [], [("x", ref(4))], []]),
    ([0], [[("a", ref(1))], [("a", ref(2)), ("b", "text")], [("a", ref(0)), ("b", 77), ("c", ref(2))]]),
]

# What is put in place of octets: bounds of each kind of octet, and octets just beyond them.
SPOILT = [0, 1, 2, 3, 4, 7, 8, 9, 14, 15, 16, 19, 20, 21, 30, 31, 66, 96, 97, 98, 121, 122, 123, 128, 129, 132, 133, 255]


class Stream:
    """Octets, and zeros without end behind them."""

    def __init__(self, octets):
        self.octets = octets
        self.at = 0

    def take(self, many):
        taken = self.octets[self.at:self.at + many]
        self.at += many
        return taken + [0] * (many - len(taken))

    def number(self, many):
        number = 0
        for octet in self.take(many):
            number = number * 256 + octet
        return number

    def text(self):
        return self.take(self.number(1))


def end_of_graph(octets):
    """Where the octets of a graph end that begin the stream of these octets, or None: a plain reader without places."""
    stream = Stream(octets)
    met = 0
    for _ in range(stream.number(1)):
        number = stream.number(2)
        if number > met:
            return None
        met = max(met, number + 1)
    told = 0
    while told < met:
        told += 1
        last = []
        while True:
            field = stream.text()
            if not field:
                break
            if len(field) > 8 or min(field) < 97 or max(field) > 122 or field <= last:
                return None
            last = field
            kind = stream.number(1)
            if kind == 1:
                if stream.number(3) > 2000000:
                    return None
            elif kind == 2:
                text = stream.text()
                if len(text) > 20 or any(letter < 97 or letter > 122 for letter in text):
                    return None
            elif kind == 3:
                number = stream.number(2)
                if number > met:
                    return None
                met = max(met, number + 1)
            else:
                return None
    return stream.at


# If any octets make a beginning right, then so do letters z to the end of a word, and then zeros,
# perhaps behind an octet that makes the value of a field a text.
TAILS = [[]] + [[122] * many + more for many in range(21) for more in ([], [2])]


def can_begin(octets):
    for tail in TAILS:
        end = end_of_graph(octets + tail)
        if end is not None and end >= len(octets):
            return True
    return False


def first_wrong(octets, start):
    """The place that [13] asks for, or None; the octets ahead of start are known to begin a graph's."""
    for place in range(start, len(octets)):
        if not can_begin(octets[:place + 1]):
            return place
    return None if end_of_graph(octets) == len(octets) else len(octets)


def place_of(octets):
    """The place that CodeError tells, None if the octets are read."""
    try:
        read_graph(octets)
    except CodeError as error:
        return error.place
    return None


class NumbersAndWordsCase(unittest.TestCase):
    def test_numbers(self):
        for number, many, octets in (
            (0, 1, [0]), (1, 1, [1]), (255, 1, [255]), (0, 2, [0, 0]), (1, 2, [0, 1]), (256, 2, [1, 0]),
            (65535, 2, [255, 255]), (258, 3, [0, 1, 2]), (2000000, 3, [30, 132, 128]), (16777215, 3, [255] * 3),
            (0, 4, [0] * 4), (1, 4, [0, 0, 0, 1]), (16909060, 4, [1, 2, 3, 4]), (4294967295, 4, [255] * 4),
        ):
            self.assertEqual(number_octets(number, many), octets)

    def test_words(self):
        self.assertEqual(word_octets(""), [0])
        self.assertEqual(word_octets("a"), [1, 97])
        self.assertEqual(word_octets("abz"), [3, 97, 98, 122])
        self.assertEqual(word_octets("zyxwvutsrqponmlkjihg"), [20] + list(range(122, 102, -1)))
        self.assertEqual(
            word_octets("abcdefghijklmnopqrstuvwxyz"), [26] + list(range(97, 123)),
        )


class WritingCase(unittest.TestCase):
    def test_graphs_by_hand(self):
        for graph, octets in WRITTEN:
            self.assertEqual(graph_octets(graph), octets, graph)

    def test_numbers_in_two_octets(self):
        graph = ([0], [[("a" + "abcdefghijklmnopqrstuvwxyz"[at // 26] + "abcdefghijklmnopqrstuvwxyz"[at % 26], ref(at))
                        for at in range(300)]] + [[] for _ in range(299)])
        octets = graph_octets(graph)
        self.assertEqual(octets[3 + 257 * 7:3 + 258 * 7], [3, 97, 106, 120, 3, 1, 1])
        self.assertEqual(len(octets), 3 + 300 * 7 + 300)
        self.assertEqual(read_graph(octets), graph)

    def test_the_graph_is_as_it_was_and_the_octets_are_new(self):
        for graph in SAMPLES:
            before = copy.deepcopy(graph)
            octets = graph_octets(graph)
            expected = list(octets)
            octets.clear()
            self.assertEqual(graph, before)
            self.assertEqual(graph_octets(graph), expected)
        first = number_octets(5, 2)
        first.clear()
        self.assertEqual(number_octets(5, 2), [0, 5])


class ReadingCase(unittest.TestCase):
    def test_graphs_by_hand(self):
        for graph, octets in WRITTEN:
            self.assertEqual(read_graph(octets), graph)

    def test_samples(self):
        for graph in SAMPLES:
            self.assertEqual(read_graph(graph_octets(graph)), graph)

    def test_the_kinds_of_the_parts(self):
        graph = read_graph(graph_octets(SAMPLES[-1]))
        self.assertIsInstance(graph, tuple)
        self.assertIsInstance(graph[0], list)
        self.assertIsInstance(graph[1], list)
        for fields in graph[1]:
            self.assertIsInstance(fields, list)
            for row in fields:
                self.assertIsInstance(row, tuple)

    def test_the_octets_are_as_they_were_and_the_graph_is_new(self):
        octets = graph_octets(SAMPLES[-1])
        before = list(octets)
        graph = read_graph(octets)
        graph[0].clear()
        graph[1][0].clear()
        self.assertEqual(octets, before)
        self.assertEqual(read_graph(octets), SAMPLES[-1])

    def test_the_most_roots(self):
        graph = (list(range(255)), [[] for _ in range(255)])
        octets = graph_octets(graph)
        self.assertEqual(octets[0], 255)
        self.assertEqual(read_graph(octets), graph)
        octets[2 * 255] = 255
        self.assertEqual(place_of(octets), 2 * 255)

    def test_the_most_objects(self):
        objects = [[("n", ref(number + 1))] for number in range(65535)] + [[("n", ref(65535)), ("o", ref(0))]]
        octets = graph_octets(([0], objects))
        self.assertEqual(octets[-11:], [1, 110, 3, 255, 255, 1, 111, 3, 0, 0, 0])
        self.assertEqual(read_graph(octets), ([0], objects))
        self.assertEqual(place_of(octets[:-1]), len(octets) - 1)
        self.assertEqual(place_of(octets + [0]), len(octets))

    def test_graphs_of_states(self):
        chance = random.Random(6)
        names = [(peer, count) for peer in range(3) for count in range(3)]
        values = [None, 0, 5, -999, "", "abc"] + [("ref", name) for name in names]
        graphs = []
        for _ in range(300):
            state = State()
            for clock in range(chance.randrange(14)):
                field = chance.choice(["a", "ab", "b"])
                state.take(((clock + 1, 0), chance.choice(names), field, chance.choice(values)))
            roots = [chance.choice(names) for _ in range(chance.randrange(4))]
            octets = graph_octets(numbered(state, roots))
            self.assertEqual(read_graph(octets), numbered(state, roots))
            self.assertEqual(graph_octets(read_graph(octets)), octets)
            graphs.append((state, roots, octets))
        for state, roots, octets in graphs[:80]:
            for other, other_roots, other_octets in graphs:
                self.assertEqual(octets == other_octets, are_alike(state, roots, other, other_roots))


class WrongOctetsCase(unittest.TestCase):
    def assert_place(self, octets, place):
        before = list(octets)
        with self.assertRaises(CodeError) as caught:
            read_graph(octets)
        self.assertEqual(caught.exception.place, place, octets)
        self.assertEqual(octets, before)

    def test_the_empty_list(self):
        self.assert_place([], 0)

    def test_every_beginning(self):
        for graph in SAMPLES:
            octets = graph_octets(graph)
            for many in range(len(octets)):
                self.assert_place(octets[:many], many)

    def test_octets_left_over(self):
        for graph in SAMPLES:
            octets = graph_octets(graph)
            for more in ([0], [1], [255], [0, 0, 0], [97]):
                self.assert_place(octets + more, len(octets))

    def test_roots(self):
        self.assert_place([1, 0, 1, 0, 0], 2)
        self.assert_place([1, 1, 0, 0], 1)
        self.assert_place([1, 255], 1)
        self.assert_place([3, 0, 0, 0, 1, 0, 3, 0], 6)
        self.assert_place([3, 0, 0, 0, 1, 1, 0, 0], 5)
        self.assert_place([3, 0, 0, 0, 2], 4)
        self.assertIsNone(place_of([3, 0, 0, 0, 1, 0, 2, 0, 0, 0]))
        self.assertIsNone(place_of([3, 0, 0, 0, 1, 0, 1, 0, 0]))

    def test_too_many_letters(self):
        for many in (9, 10, 97, 255):
            self.assert_place([1, 0, 0, many] + [97] * many + ZERO + [0], 3)
        for many in (21, 22, 97, 255):
            self.assert_place([1, 0, 0, 1, 97, 2, many] + [97] * many + [0], 6)

    def test_other_letters(self):
        for octet in (0, 32, 48, 65, 90, 95, 96, 123, 124, 128, 229, 255):
            for at in range(8):
                field = codes("bcdefghi")
                field[at] = octet
                self.assert_place([1, 0, 0, 8] + field + ZERO + [0], 4 + at)
            for at in range(20):
                text = codes("abcdefghijklmnopqrst")
                text[at] = octet
                self.assert_place([1, 0, 0, 1, 97, 2, 20] + text + [0], 7 + at)

    def test_unknown_kinds_of_values(self):
        for kind in (0, 4, 5, 97, 255):
            self.assert_place([1, 0, 0, 1, 97, kind, 0, 0, 0, 0, 0], 5)

    def test_integers_too_great(self):
        head = [1, 0, 0, 1, 97, 1]
        for octets, at in (
            ([30, 132, 129], 2), ([30, 132, 255], 2), ([30, 133, 0], 1), ([30, 255, 0], 1),
            ([31, 0, 0], 0), ([255, 255, 255], 0),
        ):
            self.assert_place(head + octets + [0], len(head) + at)
            self.assert_place(head + octets[:at + 1], len(head) + at)
        for octets in ([30, 132, 128], [30, 131, 255], [29, 255, 255], [0, 0, 0]):
            self.assertIsNone(place_of(head + octets + [0]))

    def test_references_to_what_is_not_met(self):
        head = [1, 0, 0, 1, 97, 3]
        self.assertIsNone(place_of(head + [0, 0, 0]))
        self.assertIsNone(place_of(head + [0, 1, 0, 0]))
        self.assert_place(head + [0, 2, 0, 0, 0], 7)
        self.assert_place(head + [0, 255], 7)
        self.assert_place(head + [1, 0, 0, 0], 6)
        self.assert_place(head + [255], 6)

    def test_references_behind_many_objects(self):
        # 255 roots, and then objects that refer to new ones: at the last one 300 are met.
        octets = [255] + [octet for number in range(255) for octet in (0, number)]
        for number in range(255, 300):
            octets += [1, 97, 3, number // 256, number % 256, 0]
        octets += [1, 98, 3]
        for number in (0, 255, 256, 299, 300):
            # The end of this object, the objects 46 to 299, and perhaps a new one.
            more = [number // 256, number % 256] + [0] * (1 + 254 + (number == 300))
            self.assertIsNone(place_of(octets + more), number)
        self.assert_place(octets + [1, 45, 0], len(octets) + 1)
        self.assert_place(octets + [1, 255, 0], len(octets) + 1)
        self.assert_place(octets + [2, 0, 0], len(octets))

    def test_references_within_one_object(self):
        fields = [[1, 97, 3, 0, 1], [1, 98, 3, 0, 2], [1, 99, 3, 0, 4]]
        self.assert_place(one_object(*fields) + [0, 0, 0], 3 + 14)
        fields[2][4] = 3
        self.assertIsNone(place_of(one_object(*fields) + [0, 0, 0]))

    def test_fields_that_do_not_ascend(self):
        # Two fields, and where it is certain that the second one does not come behind the first
        # one: 0 at the number of its letters, 1 at its first letter, and so on.
        for first, second, at in (
            ("b", "a", 1), ("b", "b", 1), ("b", "aaaa", 1), ("b", "az", 1),
            ("ab", "aa", 2), ("ab", "ab", 2), ("ab", "a", 1), ("ab", "aaz", 2), ("ab", "aazzzzzz", 2),
            ("az", "az", 1), ("az", "aa", 1), ("az", "azz", None), ("az", "aza", None), ("az", "ayz", 2),
            ("azz", "az", 1), ("azz", "azz", 1), ("azz", "azzy", None), ("azz", "azyz", 3), ("azz", "a", 1),
            ("z", "z", 0), ("z", "a", 0), ("z", "za", None), ("z", "yz", 1),
            ("zz", "z", 0), ("zz", "zz", 0), ("zz", "zy", 0), ("zz", "zza", None), ("zz", "zyz", 2),
            ("zza", "z", 0), ("zza", "zz", 0), ("zza", "zza", 3), ("zza", "zzb", None), ("zza", "zya", 2),
            ("zy", "z", 0), ("zy", "zx", 2), ("zy", "zy", 2), ("zy", "zz", None),
            ("zzzzzzzz", "a", 0), ("zzzzzzzz", "zzzzzzzz", 0), ("zzzzzzzz", "z", 0),
            ("zzzzzzzy", "zzzzzzzz", None), ("zzzzzzzy", "zzzzzzzy", 8), ("zzzzzzzy", "zzzzzzz", 0),
            ("abcdefgh", "abcdefgh", 8), ("abcdefgh", "abcdefg", 7), ("abcdefgh", "abcdeffz", 7),
            ("abcdefgz", "abcdefgz", 7), ("a", "aa", None), ("a", "b", None), ("m", "mzzzzzzz", None),
        ):
            octets = one_object(word(first) + ZERO, word(second) + ZERO)
            start = 3 + len(word(first)) + 4
            if at is None:
                self.assertIsNone(place_of(octets), (first, second))
            else:
                self.assert_place(octets, start + at)
                self.assert_place(octets[:start + at + 1], start + at)

    def test_fields_are_compared_with_the_one_just_ahead(self):
        octets = one_object(word("b") + ZERO, word("d") + ZERO, word("c") + ZERO)
        self.assert_place(octets, 3 + 6 + 6 + 1)

    def test_fields_of_another_object_begin_anew(self):
        self.assertIsNone(place_of([2, 0, 0, 0, 1] + word("zzzzzzzz") + ZERO + [0] + word("a") + ZERO + [0]))
        self.assertIsNone(place_of([2, 0, 0, 0, 1] + word("b") + ZERO + [0] + word("b") + ZERO + [0]))

    def test_fields_without_a_value(self):
        self.assert_place([1, 0, 0, 1, 97, 0], 5)


class SpoiltOctetsCase(unittest.TestCase):
    """Right octets with one octet exchanged, left out or put in, against a search for right ends."""

    def check(self, octets, start):
        expected = first_wrong(octets, start)
        self.assertEqual(place_of(octets), expected, octets)
        if expected is None:
            self.assertEqual(graph_octets(read_graph(octets)), octets)

    def test_the_search_takes_right_octets(self):
        for graph in SAMPLES:
            octets = graph_octets(graph)
            self.assertIsNone(first_wrong(octets, 0))

    def test_exchanged(self):
        for graph in SAMPLES:
            octets = graph_octets(graph)
            for place in range(len(octets)):
                near = [(octets[place] + 1) % 256, (octets[place] - 1) % 256]
                for octet in SPOILT + near:
                    self.check(octets[:place] + [octet] + octets[place + 1:], place)

    def test_left_out(self):
        for graph in SAMPLES:
            octets = graph_octets(graph)
            for place in range(len(octets)):
                self.check(octets[:place] + octets[place + 1:], place)

    def test_put_in(self):
        for graph in SAMPLES:
            octets = graph_octets(graph)
            for place in range(len(octets) + 1):
                for octet in (0, 1, 2, 3, 97, 122, 255):
                    self.check(octets[:place] + [octet] + octets[place:], place)

    def test_drawn_by_lot(self):
        chance = random.Random(7)
        for _ in range(300):
            octets = [chance.choice([0, 1, 2]), 0, 0]
            octets += [chance.choice([0, 0, 1, 2, 3, 97, 98, 122]) for _ in range(chance.randrange(20))]
            self.check(octets, 0)


if __name__ == "__main__":
    unittest.main()
