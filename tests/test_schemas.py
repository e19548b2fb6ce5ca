"""[41] [42] [43] [44] Kinds of objects: rules, faults, kinds within kinds, telling graphs."""

import copy
import itertools
import random
import unittest

from graphtwins.octets import graph_octets, read_graph
from graphtwins.schemas import fault_of, first_fault, fits, is_within, telling_graph


def ref(number):
    return ("ref", number)


def integer(least, greatest):
    return ("integer", least, greatest)


def text(longest):
    return ("text", longest)


def kind(name):
    return ("kind", name)


def must(rule):
    return (rule, True)


def may(rule):
    return (rule, False)


def keeps(rule, value):
    """Whether a value keeps a rule, written anew."""
    if isinstance(value, tuple):
        return rule[0] == "kind"
    if isinstance(value, str):
        return rule[0] == "text" and len(value) in range(rule[1] + 1)
    return rule[0] == "integer" and value in range(rule[1], rule[2] + 1)


def all_faults(rules, fields):
    """All faults of an object, in any order."""
    had = {field for field, _ in fields}
    return (
        [(field, "unexpected") for field in had if field not in rules]
        + [(field, "missing") for field, (_, needed) in rules.items() if needed and field not in had]
        + [(field, "wrong") for field, value in fields if field in rules and not keeps(rules[field][0], value)]
    )


def keeps_kinds(schema, graph, kinds):
    """Whether a graph keeps kinds of its roots: pairs are added until there are no more, in any order."""
    pairs = set(zip(graph[0], kinds))
    while True:
        if any(all_faults(schema[name], graph[1][number]) for number, name in pairs):
            return False
        more = {
            (value[1], schema[name][field][0][1])
            for number, name in pairs for field, value in graph[1][number] if isinstance(value, tuple)
        }
        if more <= pairs:
            return True
        pairs |= more


def search_for_gap(schema, one, other):
    """Whether a gap is met, as the fact in [43] says, for schemas of which each rule lets some value by."""
    pairs = [(one, other)]
    for first, second in pairs:
        rules, asked = schema[first], schema[second]
        for field in sorted(set(rules) | set(asked)):
            if field not in rules or not rules[field][1]:
                if field in asked and asked[field][1]:
                    return True
            if field not in rules:
                continue
            if field not in asked or rules[field][0][0] != asked[field][0][0]:
                return True
            rule, wider = rules[field][0], asked[field][0]
            if rule[0] == "integer" and not wider[1] <= rule[1] <= rule[2] <= wider[2]:
                return True
            if rule[0] == "text" and rule[1] > wider[1]:
                return True
            if rule[0] == "kind" and (rule[1], wider[1]) not in pairs:
                pairs.append((rule[1], wider[1]))
    return False


def some_rules(chance, names, lists):
    rules = [integer(0, 3), integer(0, 4), integer(1, 3), text(0), text(2), text(3)]
    rules += [kind(name) for name in names] * 3
    return {field: (chance.choice(rules), chance.choice([True, False])) for field in chance.choice(lists)}


def some_schema(chance, many):
    """A schema by lot; often its kinds are like each other but for one field."""
    names = ["k%d" % at for at in range(many)]
    lists = chance.choice([[["a"]], [["a", "b"]], [["a", "b"], ["a"], ["b"], []]])
    if chance.randrange(3):
        schema = {name: some_rules(chance, names, lists) for name in names}
    else:
        common = {field: rule for field, (rule, _) in some_rules(chance, names, [["a", "b", "c"]]).items()}
        needed = chance.choice([True, False])
        schema = {}
        for name in names:
            schema[name] = {field: (rule, needed) for field, rule in common.items()}
            for field, rule in common.items():
                if rule[0] == "kind":
                    schema[name][field] = (kind(chance.choice(names)), needed)
        odd = schema[chance.choice(names)]
        odd.update(some_rules(chance, names, [["a"], ["c"], []]))
    return schema


def small_graphs(schema, most):
    """All graphs with one root, of so many objects at the most, not all numbered as in [8], for the fields a and b."""
    for many in range(1, most + 1):
        values = [None, -1, 0, 3, 4, "", "xyz"] + [ref(number) for number in range(many)]
        shapes = [
            [(field, value) for field, value in zip("ab", row) if value is not None]
            for row in itertools.product(values, repeat=2)
        ]
        for objects in itertools.product(shapes, repeat=many):
            yield ([0], list(objects))


class FitsCase(unittest.TestCase):
    def check(self, rule, right, wrong):
        for value in right:
            self.assertIs(fits(rule, value), True, (rule, value))
        for value in wrong:
            self.assertIs(fits(rule, value), False, (rule, value))

    def test_integers(self):
        others = ["", "a", "abc", ref(0), ref(3)]
        self.check(integer(-3, 5), [-3, -2, 0, 4, 5], [-4, 6, -1000000, 1000000] + others)
        self.check(integer(0, 0), [0], [-1, 1] + others)
        self.check(integer(7, 7), [7], [6, 8, 0] + others)
        self.check(integer(-1000000, 1000000), [-1000000, 0, 1000000], [-1000001, 1000001] + others)
        self.check(integer(-9, -2), [-9, -2], [-10, -1, 2, 9] + others)

    def test_texts(self):
        others = [0, 1, 3, -1, ref(0), ref(1)]
        self.check(text(3), ["", "a", "abc"], ["abcd", "abcdefghijklmnopqrst"] + others)
        self.check(text(0), [""], ["a"] + others)
        self.check(text(20), ["", "abcdefghijklmnopqrst"], ["abcdefghijklmnopqrstu"] + others)

    def test_kinds(self):
        self.check(kind("k"), [ref(0), ref(1), ref(65535)], [0, 1, "", "k", "ref"])


class FaultCase(unittest.TestCase):
    RULES = {
        "d": must(integer(0, 9)), "b": may(text(2)), "f": must(kind("any")), "h": may(kind("any")), "j": must(text(20)),
    }

    def test_none(self):
        self.assertIsNone(fault_of(self.RULES, [("d", 0), ("f", ref(3)), ("j", "")]))
        self.assertIsNone(fault_of(self.RULES, [("b", "xy"), ("d", 9), ("f", ref(0)), ("h", ref(0)), ("j", "z" * 20)]))

    def test_objects_without_fields_and_kinds_without_fields(self):
        self.assertIsNone(fault_of({}, []))
        self.assertEqual(fault_of({}, [("z", 1)]), ("z", "unexpected"))
        self.assertEqual(fault_of({}, [("a", ref(0)), ("b", 1)]), ("a", "unexpected"))
        self.assertEqual(fault_of(self.RULES, []), ("d", "missing"))
        self.assertIsNone(fault_of({"a": may(text(1))}, []))

    def test_unexpected(self):
        for value in (0, "", ref(0)):
            self.assertEqual(fault_of(self.RULES, [("a", value), ("d", 1), ("f", ref(0)), ("j", "")]), ("a", "unexpected"))
            self.assertEqual(fault_of(self.RULES, [("d", 1), ("f", ref(0)), ("j", ""), ("z", value)]), ("z", "unexpected"))
            self.assertEqual(fault_of(self.RULES, [("d", 1), ("da", value), ("f", ref(0)), ("j", "")]), ("da", "unexpected"))

    def test_missing(self):
        self.assertEqual(fault_of(self.RULES, [("f", ref(0)), ("j", "")]), ("d", "missing"))
        self.assertEqual(fault_of(self.RULES, [("d", 1), ("j", "")]), ("f", "missing"))
        self.assertEqual(fault_of(self.RULES, [("b", "x"), ("d", 1), ("f", ref(0)), ("h", ref(1))]), ("j", "missing"))

    def test_wrong(self):
        right = {"b": "x", "d": 1, "f": ref(0), "h": ref(1), "j": ""}
        for field, values in (
            ("b", ["abc", 1, ref(0)]), ("d", [-1, 10, "", "1", ref(0)]), ("f", [0, "", "any"]), ("h", [1, "x"]),
            ("j", [0, "a" * 21, ref(1)]),
        ):
            for value in values:
                self.assertEqual(fault_of(self.RULES, sorted({**right, field: value}.items())), (field, "wrong"))

    def test_of_several_faults_the_one_at_the_first_field(self):
        self.assertEqual(fault_of(self.RULES, [("a", 1), ("d", 10)]), ("a", "unexpected"))
        self.assertEqual(fault_of(self.RULES, [("b", 5), ("c", 1)]), ("b", "wrong"))
        self.assertEqual(fault_of(self.RULES, [("e", 1), ("f", 1)]), ("d", "missing"))
        self.assertEqual(fault_of(self.RULES, [("c", 1), ("z", 1)]), ("c", "unexpected"))
        self.assertEqual(fault_of(self.RULES, [("d", 1), ("f", 1), ("i", 2)]), ("f", "wrong"))
        self.assertEqual(fault_of(self.RULES, [("d", 1), ("e", 1)]), ("e", "unexpected"))

    def test_by_lot(self):
        chance = random.Random(41)
        values = [-1, 0, 3, 4, "", "ab", "abc", "abcd", ref(0), ref(1)]
        for _ in range(3000):
            rules = some_rules(chance, ["k"], [chance.sample("abcd", chance.randrange(5))])
            fields = [(field, chance.choice(values)) for field in sorted(chance.sample("abcd", chance.randrange(5)))]
            self.assertEqual(fault_of(rules, fields), min(all_faults(rules, fields), default=None))

    def test_nothing_is_changed(self):
        rules, fields = copy.deepcopy(self.RULES), [("a", 1), ("d", 10)]
        fault_of(rules, fields)
        self.assertEqual((rules, fields), (self.RULES, [("a", 1), ("d", 10)]))
        self.assertEqual(list(rules), list(self.RULES))


class FirstFaultCase(unittest.TestCase):
    SCHEMA = {
        "list": {"first": may(kind("item")), "many": must(integer(0, 100))},
        "item": {"next": may(kind("item")), "owner": may(kind("list")), "word": must(text(5))},
        "any": {},
        "loop": {"me": must(kind("loop"))},
        "pair": {"a": must(kind("item")), "b": must(kind("list"))},
    }

    def check(self, graph, kinds, fault):
        self.assertEqual(first_fault(self.SCHEMA, graph, kinds), fault)
        self.assertEqual(keeps_kinds(self.SCHEMA, graph, kinds), fault is None)

    def test_without_roots(self):
        self.check(([], []), [], None)

    def test_roots(self):
        self.check(([0], [[("many", 3)]]), ["list"], None)
        self.check(([0], [[]]), ["list"], (0, "list", "many", "missing"))
        self.check(([0], [[("many", 101)]]), ["list"], (0, "list", "many", "wrong"))
        self.check(([0], [[("many", 3)]]), ["any"], (0, "any", "many", "unexpected"))
        self.check(([0], [[]]), ["any"], None)

    def test_several_roots(self):
        graph = ([0, 1], [[("many", 3)], [("word", "a")]])
        self.check(graph, ["list", "item"], None)
        self.check(graph, ["list", "list"], (1, "list", "many", "missing"))
        self.check(graph, ["item", "list"], (0, "item", "many", "unexpected"))
        self.check(graph, ["item", "item"], (0, "item", "many", "unexpected"))
        # The order of the roots counts, not that of the numbers.
        self.check(([0, 1, 0], [[("many", 3)], [("many", 101)]]), ["list", "list", "item"], (1, "list", "many", "wrong"))

    def test_one_object_with_two_kinds(self):
        self.check(([0, 0], [[("many", 3)]]), ["list", "list"], None)
        self.check(([0, 0], [[("many", 3)]]), ["list", "any"], (0, "any", "many", "unexpected"))
        self.check(([0, 0], [[("many", 3)]]), ["any", "list"], (0, "any", "many", "unexpected"))
        self.check(([0, 0], [[]]), ["any", "list"], (0, "list", "many", "missing"))
        self.check(([0], [[("a", ref(1)), ("b", ref(1))], [("many", 3)]]), ["pair"], (1, "item", "many", "unexpected"))
        self.check(([0], [[("a", ref(1)), ("b", ref(1))], [("word", "x")]]), ["pair"], (1, "list", "many", "missing"))
        self.check(([0], [[("a", ref(1)), ("b", ref(2))], [("word", "x")], [("many", 0)]]), ["pair"], None)

    def test_rings(self):
        ring = ([0], [
            [("first", ref(1)), ("many", 2)], [("next", ref(2)), ("owner", ref(0)), ("word", "a")],
            [("next", ref(1)), ("owner", ref(0)), ("word", "b")],
        ])
        self.check(ring, ["list"], None)
        self.check(ring, ["item"], (0, "item", "first", "unexpected"))
        ring[1][2][1] = ("owner", ref(1))
        self.check(ring, ["list"], (1, "list", "many", "missing"))
        self.check(([0], [[("me", ref(0))]]), ["loop"], None)
        self.check(([0], [[("me", ref(1))], [("me", ref(0))]]), ["loop"], None)
        self.check(([0], [[("me", ref(1))], [("me", ref(2))], []]), ["loop"], (2, "loop", "me", "missing"))

    def test_in_breadth_with_fields_ascending(self):
        # Behind a, two steps off, and behind b, one step off: the nearer one counts first.
        graph = ([0], [
            [("a", ref(1)), ("b", ref(2))], [("next", ref(3)), ("word", "x")], [("many", -1)], [("word", 1)],
        ])
        self.check(graph, ["pair"], (2, "list", "many", "wrong"))
        graph[1][2][0] = ("many", 1)
        self.check(graph, ["pair"], (3, "item", "word", "wrong"))
        # Two at the same distance: the field a comes first.
        graph = ([0], [[("a", ref(1)), ("b", ref(2))], [], []])
        self.check(graph, ["pair"], (1, "item", "word", "missing"))
        # The roots come ahead of what they refer to.
        graph = ([0, 1], [[("a", ref(2)), ("b", ref(3))], [("many", "x")], [], []])
        self.check(graph, ["pair", "list"], (1, "list", "many", "wrong"))

    def test_references_are_followed_by_the_rule_of_their_field(self):
        schema = {"one": {"to": must(kind("two"))}, "two": {"to": may(kind("one")), "x": may(text(1))}}
        graph = ([0], [[("to", ref(1))], [("to", ref(2))], [("to", ref(3))], [("x", "a")]])
        self.assertIsNone(first_fault(schema, graph, ["one"]))
        self.assertEqual(first_fault(schema, graph, ["two"]), (3, "one", "to", "missing"))

    def test_by_lot(self):
        chance = random.Random(42)
        kept = 0
        for _ in range(4000):
            schema = some_schema(chance, 3)
            values = [0, 3, 4, "", "abc"] + [ref(chance.randrange(3)) for _ in range(8)]
            objects = [
                [(field, chance.choice(values)) for field in sorted(chance.sample("ab", chance.randrange(3)))]
                for _ in range(3)
            ]
            graph = (sorted(chance.choice(range(3)) for _ in range(chance.randrange(4))), objects)
            kinds = [chance.choice(list(schema)) for _ in graph[0]]
            pairs = list(dict.fromkeys(zip(graph[0], kinds)))
            expected = None
            for number, name in pairs:
                faults = all_faults(schema[name], objects[number])
                if faults:
                    expected = (number, name) + min(faults)
                    break
                for field, value in objects[number]:
                    if isinstance(value, tuple) and (value[1], schema[name][field][0][1]) not in pairs:
                        pairs.append((value[1], schema[name][field][0][1]))
            self.assertEqual(first_fault(schema, graph, kinds), expected)
            kept += expected is None and graph[0] != []
        self.assertGreater(kept, 20)

    def test_a_long_row(self):
        many = 20000
        graph = ([0], [[("next", ref(number + 1)), ("word", "")] for number in range(many)] + [[("next", ref(0))]])
        self.assertEqual(first_fault(self.SCHEMA, graph, ["item"]), (many, "item", "word", "missing"))

    def test_nothing_is_changed(self):
        schema, kinds = copy.deepcopy(self.SCHEMA), ["pair", "any"]
        graph = ([0, 1], [[("a", ref(1)), ("b", ref(1))], []])
        before = copy.deepcopy(graph)
        first_fault(schema, graph, kinds)
        self.assertEqual((schema, graph, kinds), (self.SCHEMA, before, ["pair", "any"]))


class WithinCase(unittest.TestCase):
    def told(self, schema, one, other):
        """Whether a kind is within another one, seen to it that the telling graph says the same."""
        within = is_within(schema, one, other)
        self.assertIsInstance(within, bool)
        graph = telling_graph(schema, one, other)
        self.assertEqual(graph is None, within, (schema, one, other))
        if graph is not None:
            self.assertEqual(len(graph[0]), 1)
            self.assertTrue(keeps_kinds(schema, graph, [one]), (schema, one, other, graph))
            self.assertFalse(keeps_kinds(schema, graph, [other]), (schema, one, other, graph))
            self.assertIsNone(first_fault(schema, graph, [one]))
            self.assertIsNotNone(first_fault(schema, graph, [other]))
            # Octets are read only if the objects are numbered from the root on.
            self.assertEqual(read_graph(graph_octets(graph)), graph)
        return within

    def check(self, rules, asked, within):
        """Check two kinds with such fields: alone, and behind a field of two others."""
        schema = {
            "one": rules, "other": asked, "over": {"to": must(kind("one")), "x": may(text(1))},
            "wider": {"to": may(kind("other")), "x": may(text(1))},
        }
        self.assertIs(self.told(schema, "one", "other"), within, (rules, asked))
        self.assertIs(self.told(schema, "over", "wider"), within, (rules, asked))
        self.assertIs(self.told(schema, "wider", "over"), False)

    def test_a_kind_within_itself(self):
        rules = {"a": must(integer(1, 2)), "b": may(text(3)), "c": must(kind("other")), "d": may(kind("one"))}
        self.check(rules, dict(rules), True)
        for name in ("one", "other"):
            self.assertIs(self.told({"one": rules, "other": {}}, name, name), True)
        self.check({}, {}, True)

    def test_needed_or_not(self):
        for rule in (integer(0, 5), text(4), kind("one"), kind("other")):
            self.check({"a": must(rule)}, {"a": may(rule)}, True)
            self.check({"a": may(rule)}, {"a": must(rule)}, False)
            self.check({"a": must(rule)}, {"a": must(rule)}, True)
            self.check({"a": may(rule)}, {"a": may(rule)}, True)

    def test_a_field_that_only_one_of_them_knows(self):
        for rule in (integer(0, 5), text(0), kind("one"), kind("other")):
            self.check({"a": may(rule)}, {}, False)
            self.check({"a": must(rule)}, {}, False)
            self.check({}, {"a": may(rule)}, True)
            self.check({}, {"a": must(rule)}, False)
            self.check({"b": must(text(1))}, {"a": may(rule), "b": may(text(1))}, True)
            self.check({"b": must(text(1))}, {"a": must(rule), "b": may(text(1))}, False)

    def test_ranges_of_integers(self):
        for least, greatest, other_least, other_greatest, within in (
            (0, 5, 0, 5, True), (0, 5, -1, 5, True), (0, 5, 0, 6, True), (0, 5, -9, 9, True), (3, 3, 3, 3, True),
            (0, 5, 1, 5, False), (0, 5, 0, 4, False), (0, 5, 1, 4, False), (0, 5, 6, 9, False), (0, 5, -9, -1, False),
            (0, 5, 3, 3, False), (3, 3, 2, 2, False), (0, 0, 1, 1, False), (-5, -1, -5, -2, False),
            (-1000000, 1000000, -1000000, 1000000, True), (-1000000, 1000000, -999999, 1000000, False),
            (-1000000, 1000000, -1000000, 999999, False), (1000000, 1000000, -1000000, 1000000, True),
        ):
            for first, second in itertools.product((must, may), repeat=2):
                expected = within and (first == must or second == may)
                self.check({"a": first(integer(least, greatest))}, {"a": second(integer(other_least, other_greatest))}, expected)

    def test_lengths_of_texts(self):
        for longest, other, within in (
            (0, 0, True), (0, 1, True), (1, 0, False), (5, 5, True), (5, 6, True), (6, 5, False), (20, 20, True),
            (20, 19, False), (19, 20, True),
        ):
            self.check({"a": must(text(longest))}, {"a": must(text(other))}, within)
            self.check({"a": may(text(longest))}, {"a": may(text(other))}, within)

    def test_rules_of_unlike_kinds(self):
        rules = [integer(0, 0), text(0), kind("one")]
        for rule, other in itertools.permutations(rules, 2):
            for first, second in itertools.product((must, may), repeat=2):
                self.check({"a": first(rule)}, {"a": second(other)}, False)

    def test_kinds_that_refer_to_themselves(self):
        for first, second, within in ((must, must, True), (must, may, True), (may, may, True), (may, must, False)):
            self.check({"me": first(kind("one"))}, {"me": second(kind("other"))}, within)
            self.check({"me": first(kind("one"))}, {"me": second(kind("one"))}, within)
            self.check({"me": first(kind("other"))}, {"me": second(kind("one"))}, first == second)

    def test_kinds_that_refer_to_each_other(self):
        schema = {
            "a": {"n": must(kind("b")), "x": must(integer(0, 1))}, "b": {"n": must(kind("a")), "x": must(integer(0, 2))},
            "c": {"n": must(kind("c")), "x": must(integer(0, 2))}, "d": {"n": must(kind("d")), "x": must(integer(0, 1))},
            "e": {"n": may(kind("e")), "x": must(integer(0, 3))},
        }
        expected = {
            "aa", "bb", "cc", "dd", "ee", "ac", "ae", "bc", "be", "ce", "da", "db", "dc", "de",
        }
        for one, other in itertools.product("abcde", repeat=2):
            self.assertIs(self.told(schema, one, other), one + other in expected, one + other)

    def test_rings_of_other_lengths(self):
        schema = {"r%d" % at: {"n": must(kind("r%d" % ((at + 1) % 3)))} for at in range(3)}
        schema.update({"s%d" % at: {"n": must(kind("s%d" % ((at + 1) % 4)))} for at in range(4)})
        for one, other in itertools.product(schema, repeat=2):
            self.assertIs(self.told(schema, one, other), True)
        schema["s3"]["x"] = may(text(0))
        self.assertIs(self.told(schema, "r0", "s0"), True)
        self.assertIs(self.told(schema, "s0", "r0"), False)
        self.assertIs(self.told(schema, "s0", "s1"), False)
        self.assertIs(self.told(schema, "s1", "s1"), True)

    def test_a_gap_some_kinds_further_on(self):
        many = 30
        schema = {}
        for letter, last in (("a", 6), ("b", 5)):
            for at in range(many):
                schema[letter + str(at)] = {"n": may(kind(letter + str(at + 1))), "o": may(text(2))}
            schema[letter + str(many)] = {"x": may(integer(0, last))}
        self.assertIs(self.told(schema, "a0", "b0"), False)
        self.assertIs(self.told(schema, "b0", "a0"), True)
        self.assertIs(self.told(schema, "a%d" % many, "b%d" % many), False)
        graph = telling_graph(schema, "a0", "b0")
        self.assertEqual(graph, ([0], [[("n", ref(number + 1))] for number in range(many)] + [[("x", 6)]]))

    def test_kinds_that_only_rings_keep(self):
        schema = {
            "ring": {"n": must(kind("ring"))}, "two": {"n": must(kind("three"))}, "three": {"n": must(kind("two"))},
            "marked": {"n": must(kind("marked")), "x": may(text(1))}, "end": {"n": may(kind("end"))},
            "both": {"n": must(kind("both")), "o": must(kind("ring"))},
        }
        expected = {
            ("ring", "two"), ("ring", "three"), ("two", "ring"), ("two", "three"), ("three", "ring"), ("three", "two"),
            ("ring", "marked"), ("two", "marked"), ("three", "marked"), ("ring", "end"), ("two", "end"), ("three", "end"),
        }
        for one, other in itertools.permutations(schema, 2):
            self.assertIs(self.told(schema, one, other), (one, other) in expected, (one, other))
        self.assertEqual(telling_graph(schema, "ring", "both"), ([0], [[("n", ref(0))]]))

    def test_kinds_that_no_graph_keeps(self):
        # No integer and no text of [3] keeps these rules.
        for rule in (integer(1000001, 2000000), integer(-2000000, -1000001), text(-1)):
            schema = {
                "never": {"x": must(rule)}, "needs": {"n": must(kind("never")), "o": may(text(1))},
                "further": {"n": must(kind("needs"))}, "ring": {"n": must(kind("ring")), "x": must(rule)},
                "may": {"n": may(kind("further")), "o": may(text(1)), "x": may(rule)},
                "plain": {"o": may(text(1))}, "bare": {}, "asks": {"o": must(text(1))},
            }
            never = ("never", "needs", "further", "ring")
            for one, other in itertools.product(schema, repeat=2):
                expected = one in never or one == other or one == "bare" and other in ("may", "plain")
                expected = expected or (one, other) in (("may", "plain"), ("plain", "may"), ("asks", "may"), ("asks", "plain"))
                self.assertIs(self.told(schema, one, other), expected, (one, other))

    def test_values_beyond_those_of_values_make_no_gap(self):
        self.check({"a": must(integer(0, 2000000))}, {"a": must(integer(0, 1000000))}, True)
        self.check({"a": must(integer(-2000000, 0))}, {"a": must(integer(-1000000, 0))}, True)
        self.check({"a": must(integer(-2000000, 2000000))}, {"a": must(integer(-1000000, 999999))}, False)
        self.check({"a": must(text(25))}, {"a": must(text(20))}, True)
        self.check({"a": must(text(25))}, {"a": must(text(19))}, False)

    def test_by_lot_against_the_search_for_gaps(self):
        chance = random.Random(43)
        within = 0
        for _ in range(600):
            schema = some_schema(chance, 4)
            for one, other in itertools.permutations(schema, 2):
                expected = not search_for_gap(schema, one, other)
                self.assertIs(self.told(schema, one, other), expected, (schema, one, other))
                within += expected
        self.assertGreater(within, 300)

    def test_by_lot_against_all_small_graphs(self):
        chance = random.Random(44)
        graphs = list(small_graphs({}, 2))
        within = 0
        for _ in range(8):
            schema = {
                name: {
                    field: (chance.choice([integer(0, 3), integer(-1, 3), text(0), kind("k"), kind("l"), kind("k")]),
                            chance.choice([True, False]))
                    for field in chance.choice(["a", "a", "ab", ""])
                }
                for name in "klm"
            }
            kept = {name: [at for at, graph in enumerate(graphs) if keeps_kinds(schema, graph, [name])] for name in schema}
            for one, other in itertools.permutations(schema, 2):
                if self.told(schema, one, other):
                    within += 1
                    self.assertLessEqual(set(kept[one]), set(kept[other]), (schema, one, other))
        self.assertGreater(within, 3)

    def test_nothing_is_changed_and_the_graph_is_new(self):
        schema = {"one": {"b": may(kind("other")), "a": must(kind("one"))}, "other": {"x": may(integer(0, 3000000))}}
        before = copy.deepcopy(schema)
        is_within(schema, "one", "other")
        graph = telling_graph(schema, "one", "other")
        again = copy.deepcopy(graph)
        graph[1][0].clear()
        graph[0].clear()
        self.assertEqual(telling_graph(schema, "one", "other"), again)
        self.assertEqual(schema, before)
        self.assertEqual(list(schema["one"]), ["b", "a"])


if __name__ == "__main__":
    unittest.main()
