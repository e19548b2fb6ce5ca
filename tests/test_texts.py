"""[35] [36] Texts of graphs."""

import copy
import random
import re
import unittest

from graphtwins.errors import LineError
from graphtwins.graphs import numbered
from graphtwins.states import State
from graphtwins.texts import format_graph, format_value, parse_graph


def ref(number):
    return ("ref", number)


# Graphs with the lines that [35] gives them, written by hand.
WRITTEN = [
    (([], []), ["roots"]),
    (([0], [[]]), ["roots 0", "0:"]),
    (([0, 0], [[]]), ["roots 0 0", "0:"]),
    (([0, 1, 0, 2, 1], [[], [], []]), ["roots 0 1 0 2 1", "0:", "1:", "2:"]),
    (([0], [[("a", 0)]]), ["roots 0", "0: a=0"]),
    (([0], [[("a", -1000000), ("b", 1000000), ("c", -1), ("d", 10)]]), ["roots 0", "0: a=-1000000 b=1000000 c=-1 d=10"]),
    (([0], [[("a", ""), ("b", "abcdefghijklmnopqrst")]]), ["roots 0", '0: a="" b="abcdefghijklmnopqrst"']),
    (([0], [[("abcdefgh", "z"), ("abd", 5), ("z", ref(0))]]), ["roots 0", '0: abcdefgh="z" abd=5 z=#0']),
    (
        ([0, 1], [[("a", ref(2)), ("b", ref(1))], [], [("c", ref(0)), ("d", ref(3))], [("me", ref(3))]]),
        ["roots 0 1", "0: a=#2 b=#1", "1:", "2: c=#0 d=#3", "3: me=#3"],
    ),
    (
        (list(range(11)), [[] for _ in range(10)] + [[("x", ref(9)), ("y", ref(10)), ("z", ref(11))], []]),
        ["roots 0 1 2 3 4 5 6 7 8 9 10"] + ["%d:" % number for number in range(10)] + ["10: x=#9 y=#10 z=#11", "11:"],
    ),
]

NUMBER = "(?:0|[1-9][0-9]{0,7})"
VALUE = '(?:-?%s|"[a-z]{0,20}"|#%s)' % (NUMBER, NUMBER)
FIRST_LINE = re.compile("roots(?: %s)*" % NUMBER)
FURTHER_LINE = re.compile("(%s):((?: [a-z]{1,8}=%s)*)" % (NUMBER, VALUE))


def first_wrong(text):
    """The number of the first wrong line, None if there is none: by patterns, line by line."""
    lines = text.split("\n")
    if not FIRST_LINE.fullmatch(lines[0]):
        return 1
    met = 0
    for word in lines[0].split(" ")[1:]:
        if int(word) > met:
            return 1
        met = max(met, int(word) + 1)
    for at, line in enumerate(lines[1:]):
        match = FURTHER_LINE.fullmatch(line)
        if not match or int(match.group(1)) != at or at >= met:
            return at + 2
        words = [word.split("=") for word in match.group(2).split()]
        fields = [word[0] for word in words]
        if any(not one < other for one, other in zip(fields, fields[1:])):
            return at + 2
        for _, value in words:
            if value[0] == "#":
                if int(value[1:]) > met:
                    return at + 2
                met = max(met, int(value[1:]) + 1)
            elif value[0] != '"' and (value == "-0" or abs(int(value)) > 1000000):
                return at + 2
    return None if met == len(lines) - 1 else len(lines) + 1


def line_of(text):
    """The line that LineError tells, None if the text is read."""
    try:
        parse_graph(text)
    except LineError as error:
        return error.line
    return None


class FormatCase(unittest.TestCase):
    def test_values(self):
        for value, text in (
            (0, "0"), (1, "1"), (-1, "-1"), (10, "10"), (-305, "-305"), (1000000, "1000000"), (-1000000, "-1000000"),
            ("", '""'), ("a", '"a"'), ("abcdefghijklmnopqrst", '"abcdefghijklmnopqrst"'), ("ref", '"ref"'),
            (ref(0), "#0"), (ref(7), "#7"), (ref(65535), "#65535"),
        ):
            self.assertEqual(format_value(value), text)

    def test_graphs_by_hand(self):
        for graph, lines in WRITTEN:
            self.assertEqual(format_graph(graph), "\n".join(lines))

    def test_line_feeds_stand_between_lines_only(self):
        for graph, lines in WRITTEN:
            text = format_graph(graph)
            self.assertEqual(text.count("\n"), len(graph[1]))
            self.assertFalse(text.endswith("\n"))
            self.assertFalse(text.startswith("\n"))

    def test_graphs_of_states_have_their_fields_ascending(self):
        state = State()
        for at, (field, value) in enumerate([("b", 1), ("ab", -2), ("z", ""), ("a", ("ref", (0, 0))), ("y", None)]):
            state.take(((at + 1, 0), (0, 0), field, value))
        self.assertEqual(format_graph(numbered(state, [(0, 0)])), 'roots 0\n0: a=#0 ab=-2 b=1 z=""')

    def test_the_graph_is_as_it_was(self):
        for graph, _ in WRITTEN:
            before = copy.deepcopy(graph)
            format_graph(graph)
            self.assertEqual(graph, before)


class ParseCase(unittest.TestCase):
    def test_graphs_by_hand(self):
        for graph, lines in WRITTEN:
            self.assertEqual(parse_graph("\n".join(lines)), graph)

    def test_the_kinds_of_the_parts(self):
        graph = parse_graph('roots 0\n0: a=1 b="x" c=#0')
        self.assertIsInstance(graph, tuple)
        self.assertIsInstance(graph[0], list)
        self.assertIsInstance(graph[1], list)
        self.assertIsInstance(graph[1][0], list)
        for row in graph[1][0]:
            self.assertIsInstance(row, tuple)

    def test_the_graph_is_new(self):
        for graph, lines in WRITTEN:
            told = parse_graph("\n".join(lines))
            for fields in told[1]:
                fields.clear()
            told[0].clear()
            told[1].clear()
            self.assertEqual(parse_graph("\n".join(lines)), graph)

    def test_graphs_of_states(self):
        chance = random.Random(35)
        names = [(peer, count) for peer in range(3) for count in range(4)]
        values = [None, 0, 5, -999, "", "abc"] + [("ref", name) for name in names]
        for _ in range(400):
            state = State()
            for clock in range(chance.randrange(20)):
                field = chance.choice(["a", "ab", "b", "zzzzzzzz"])
                state.take(((clock + 1, 0), chance.choice(names), field, chance.choice(values)))
            graph = numbered(state, [chance.choice(names) for _ in range(chance.randrange(4))])
            text = format_graph(graph)
            self.assertEqual(parse_graph(text), graph)
            self.assertEqual(format_graph(parse_graph(text)), text)

    def test_many_objects(self):
        many = 20000
        graph = ([0], [[("n", ref(number + 1))] for number in range(many)] + [[("n", ref(0)), ("o", ref(many))]])
        self.assertEqual(parse_graph(format_graph(graph)), graph)


class WrongTextsCase(unittest.TestCase):
    def assert_line(self, lines, line):
        self.assertEqual(line_of("\n".join(lines)), line, lines)
        self.assertEqual(first_wrong("\n".join(lines)), line, lines)

    def assert_fields(self, words, right=False):
        """Assert that an object with such fields is wrong, or right: as the only one, and as the last one."""
        self.assert_line(["roots 0", "0:" + words], None if right else 2)
        self.assert_line(["roots 0 1", "0: abc=1", "1:" + words], None if right else 3)

    def test_the_empty_text(self):
        self.assert_line([""], 1)

    def test_first_lines(self):
        for line in (
            "root", "rootss", "Roots", "roots:", "0:", "0", "roots0", "roots a", "roots #0", "roots -1", "roots -0",
            "roots +0", "roots 0,1", "roots 0:", "roots 0.", "roots 00", "roots 0 01", "roots \u0660", "roots 0 \u00b9",
            "roots 0_0", 'roots "a"', "roots ", "roots  0", " roots 0", "roots 0 ", "roots 0  1", "roots\t0", "roots 0\r",
            " roots", "roots  ", "\troots",
        ):
            self.assert_line([line, "0:"], 1)
            self.assert_line([line], 1)

    def test_roots(self):
        for line in (
            "roots 1", "roots 0 2", "roots 0 1 3", "roots 0 0 2", "roots 1 0", "roots 0 10", "roots 0 1 2 00",
            "roots 0 99999999", "roots 100000000", "roots 0 000000001",
        ):
            self.assert_line([line] + ["%d:" % number for number in range(3)], 1)
        self.assert_line(["roots 0 1 0 1 2 2", "0:", "1:", "2:"], None)

    def test_numbers_of_lines(self):
        for line in (
            "1:", "2:", "0", ":", "", "00:", "01:", "-0:", "+0:", "a:", "#0:", "0 :", "0::", " 0:", "0: ", "0:a=1", "0;",
            "0: :", "\u0660:", "roots", "roots 0", "000000000:", "0:\r", "\t0:", "x 0:",
        ):
            self.assert_line(["roots 0 1", line, "1:"], 2)
        for line in ("0:", "2:", "3:", "01:", "1", "11:", "", "1 :", "1:0:"):
            self.assert_line(["roots 0 1 2", "0:", line, "2:"], 3)

    def test_lines_of_objects_that_were_met_but_not_next(self):
        self.assert_line(["roots 0 1", "1:", "0:"], 2)
        self.assert_line(["roots 0 1", "0:", "0:"], 3)

    def test_objects_that_no_earlier_line_met(self):
        self.assert_line(["roots", "0:"], 2)
        self.assert_line(["roots", "0: a=#0"], 2)
        self.assert_line(["roots 0", "0:", "1:"], 3)
        self.assert_line(["roots 0", "0:", "1: a=#1"], 3)
        self.assert_line(["roots 0", "0: a=#0", "1: a=#1"], 3)
        self.assert_line(["roots 0", "0: a=#1", "1:", "2: a=#2"], 4)
        self.assert_line(["roots 0", "0: a=#1", "1: a=#2", "2: a=#2"], None)

    def test_fields_that_do_not_ascend(self):
        for words in (
            " b=1 a=1", " a=1 a=1", " a=1 a=2", " ab=1 a=1", " a=1 c=1 b=1", " b=1 ab=1", " z=1 zz=1 z=1", " b=#0 a=#0",
        ):
            self.assert_fields(words)
        for words in (" a=1 aa=1 ab=1 b=1", " zy=1 zz=1 zzz=1"):
            self.assert_fields(words, right=True)

    def test_fields(self):
        for field in (
            "", "abcdefghi", "A", "aB", "a1", "1", "a-b", "a_b", "a.b", "\u00e4", "a:", "#", '"a"', "a,b", "a\t", "\ta",
            "a\r", "aaaaaaaaaaaaaaaaaaaaa", "{", "`",
        ):
            self.assert_fields(" %s=1" % field)
        for field in ("a", "z", "abcdefgh", "zzzzzzzz"):
            self.assert_fields(" %s=1" % field, right=True)

    def test_signs_between_fields_and_values(self):
        for words in (
            " a", " a:1", " a==1", " a=1=1", " a=", " =", " a1", " =1", " a= 1", " a =1", " a=1,b=1", ' a"x"', " a#0", ' a=="x"',
        ):
            self.assert_fields(words)

    def test_integers(self):
        for value in (
            "1000001", "-1000001", "1000010", "9999999", "-9999999", "10000000", "99999999", "-99999999", "100000000",
            "-100000000", "00", "01", "-01", "007", "-007", "0000000", "000000001", "-0", "-00", "-", "--1", "+1", "1-",
            "1.0", "1e3", "1_0", "0x1", "1a", "a", "None", "True", "\u0661", "\u00b2", "-\u0661", "1\u0660", " 1", "1\t",
        ):
            self.assert_fields(" a=%s" % value)
        for value in ("0", "1", "-1", "9", "10", "1000000", "-1000000", "999999", "-999999"):
            self.assert_fields(" a=%s" % value, right=True)

    def test_texts(self):
        for value in (
            '"abcdefghijklmnopqrstu"', '"' + "a" * 200 + '"', '"A"', '"a1"', '"a b"', '" "', '"\u00e4"', '"a-"', '"a"b"',
            '"', '"a', 'a"', '"""', '""""', '"a""', '""a"', "'a'", '"a"x', 'x"a"', '"a\t"', '"a=b"', '"#0"', '-"a"',
        ):
            self.assert_fields(" a=%s" % value)
        for value in ('""', '"a"', '"z"', '"abcdefghijklmnopqrst"'):
            self.assert_fields(" a=%s" % value, right=True)

    def test_references(self):
        for value in (
            "#", "#-0", "#-1", "#+0", "#00", "#01", "#000000000", "#a", '#"a"', "##0", "# 0", "#0#", "#0 #0", "#9",
            "#99999999", "#100000000", "#0.", "#\u0660", "0#",
        ):
            self.assert_fields(" a=%s" % value)
        self.assert_line(["roots 0", "0: a=#2", "1:", "2:"], 2)
        self.assert_line(["roots 0", "0: a=#1 b=#3", "1:", "2:", "3:"], 2)
        self.assert_line(["roots 0", "0: a=#0 b=#2", "1:", "2:"], 2)
        self.assert_line(["roots 0", "0: a=#1", "1: a=#3", "2:", "3:"], 3)
        self.assert_line(["roots 0", "0: a=#1 b=#2", "1: a=#3 b=#1", "2:", "3:"], None)

    def test_blanks(self):
        for line in (
            " 0: a=1 b=2", "0:  a=1 b=2", "0: a=1  b=2", "0: a=1 b=2 ", "0:a=1 b=2", "0: a=1b=2", "0: a=1\tb=2", "0 : a=1 b=2",
            "0: a=1 b=2\r", "0: a=1\u00a0b=2", "0:\ta=1 b=2", "0: a = 1 b=2", "0: a=1 b=2\x0b", "0: a=1 b=2\x0c",
        ):
            self.assert_line(["roots 0", line], 2)
        self.assert_line(["roots 0", "0: a=1 b=2"], None)

    def test_lines_left_over(self):
        for graph, lines in WRITTEN:
            for more in ("", "0:", "%d:" % len(graph[1]), "%d: a=#%d" % (len(graph[1]), len(graph[1])), "roots", " "):
                self.assert_line(lines + [more], len(lines) + 1)

    def test_lines_that_lack(self):
        for _, lines in WRITTEN:
            for many in range(1, len(lines)):
                self.assert_line(lines[:many], many + 1)
        self.assert_line(["roots 0 1 2"], 2)
        self.assert_line(["roots 0", "0: a=#1 b=#2 c=#3", "1:"], 4)

    def test_a_line_feed_at_the_end(self):
        for _, lines in WRITTEN:
            self.assert_line(lines + [""], len(lines) + 1)
            self.assert_line(lines + ["", ""], len(lines) + 1)
        self.assert_line(["roots 0", ""], 2)

    def test_line_feeds_elsewhere(self):
        self.assert_line(["", "roots 0", "0:"], 1)
        self.assert_line(["roots 0", "", "0:"], 2)
        self.assert_line(["roots 0\r", "0:\r"], 1)
        self.assert_line(["roots 0 1", "0:\x0b1:"], 2)
        self.assert_line(["roots 0 1\x851:", "0:"], 1)

    def test_of_several_wrong_lines_the_first_one_counts(self):
        self.assert_line(["root 0", "0", "1"], 1)
        self.assert_line(["roots 1", "0: a"], 1)
        self.assert_line(["roots 0 1", "0: a=x", "1: a=y", "2:"], 2)
        self.assert_line(["roots 0 1 2", "0:", "1: a=-0", "2: b=1 a=1"], 3)
        self.assert_line(["roots 0 1 2 3", "0:", "1: a=-0"], 3)
        self.assert_line(["roots 0 1", "0:", "1:", "x", "y"], 4)


class SpoiltTextsCase(unittest.TestCase):
    """Right texts with some signs or lines changed, against the patterns."""

    TEXTS = ["\n".join(lines) for _, lines in WRITTEN[1:]]

    def check(self, text):
        expected = first_wrong(text)
        self.assertEqual(line_of(text), expected, text)
        if expected is None:
            self.assertEqual(format_graph(parse_graph(text)), text)

    def test_one_sign(self):
        signs = ' \n#"=:-0129azA'
        for text in self.TEXTS:
            for at in range(len(text) + 1):
                self.check(text[:at] + text[at + 1:])
                for sign in signs:
                    self.check(text[:at] + sign + text[at + 1:])
                    self.check(text[:at] + sign + text[at:])

    def test_lines(self):
        for text in self.TEXTS:
            lines = text.split("\n")
            for at in range(len(lines)):
                self.check("\n".join(lines[:at] + lines[at + 1:]))
                for other in range(len(lines)):
                    self.check("\n".join(lines[:at] + [lines[other]] + lines[at:]))
                    exchanged = list(lines)
                    exchanged[at], exchanged[other] = lines[other], lines[at]
                    self.check("\n".join(exchanged))

    def test_several_signs(self):
        chance = random.Random(36)
        for _ in range(3000):
            signs = list(chance.choice(self.TEXTS))
            for _ in range(chance.randrange(1, 4)):
                signs[chance.randrange(len(signs))] = chance.choice(' \n#"=:-0123ab')
            self.check("".join(signs))


if __name__ == "__main__":
    unittest.main()
