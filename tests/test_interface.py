"""The interface: names and arguments as they are written, and where they are defined."""

import importlib
import inspect
import unittest

FUNCTIONS = {
    "graphtwins.values": {
        "is_name": ["name"], "is_field": ["text"], "is_value": ["value"],
        "reference": ["name"], "is_reference": ["value"], "target_of": ["value"],
    },
    "graphtwins.changes": {
        "is_stamp": ["stamp"], "is_change": ["change"], "is_later": ["stamp", "other"],
        "greatest_stamp": ["changes"], "sorted_changes": ["changes"],
    },
    "graphtwins.states": {
        "joined": ["one", "other"], "is_equal": ["one", "other"], "is_below": ["one", "other"],
    },
    "graphtwins.graphs": {
        "reachable": ["state", "roots"], "numbered": ["state", "roots"],
        "are_alike": ["state", "roots", "other", "other_roots"],
    },
    "graphtwins.octets": {
        "number_octets": ["number", "many"], "word_octets": ["word"],
        "graph_octets": ["graph"], "read_graph": ["octets"],
    },
    "graphtwins.wire": {
        "check_of": ["octets"], "message_octets": ["sender", "number", "changes"], "read_message": ["octets"],
    },
    "graphtwins.texts": {
        "format_value": ["value"], "format_graph": ["graph"], "parse_graph": ["text"],
    },
    "graphtwins.queries": {
        "follow": ["graph", "numbers", "steps"], "closure": ["graph", "numbers"],
        "values_at": ["graph", "numbers", "steps", "field"], "path_to": ["graph", "start", "goal"],
    },
    "graphtwins.classes": {
        "classes": ["graph"], "smaller": ["graph"], "telling_path": ["graph", "one", "other"],
    },
    "graphtwins.schemas": {
        "fits": ["rule", "value"], "fault_of": ["rules", "fields"], "first_fault": ["schema", "graph", "kinds"],
        "is_within": ["schema", "kind", "other"], "telling_graph": ["schema", "kind", "other"],
    },
    "graphtwins.ranges": {
        "ranges_of": ["numbers"], "numbers_of": ["ranges"], "told": ["replica"], "lacking": ["mine", "theirs"],
        "answer": ["replica", "theirs"], "bring": ["replica", "other"],
    },
    "graphtwins.lazy": {
        "part_of": ["state", "names"], "fetch_all": ["lazy", "state", "roots", "most"],
        "is_whole": ["lazy", "roots"], "merged": ["lazy", "other"],
    },
    "graphtwins.snapshots": {
        "state_of_cut": ["replica", "version"], "snapshot": ["replica", "version", "roots"],
        "common_version": ["replicas"], "known_version": ["replicas"], "exchange_all": ["replicas"],
        "are_together": ["replicas"],
    },
    "graphtwins.collection": {
        "marks": ["replica"], "let_go": ["replica", "names"], "garbage": ["replicas"], "collect": ["replicas"],
    },
    "graphtwins.patches": {
        "patch": ["one", "other"], "applied": ["state", "changes"], "differences": ["one", "other"],
        "needed": ["changes"], "between": ["one", "other", "clock", "peer"],
    },
    "graphtwins.watches": {
        "follow": ["state", "path"], "value_at": ["state", "path"], "cells_of": ["state", "path"],
    },
    "graphtwins.journal": {
        "record_of": ["message"], "recovered": ["octets"], "opened": ["peer", "octets", "power"],
    },
}

CLASSES = {
    "graphtwins.errors": {
        "GraphtwinsError": {},
        "CodeError": {"__init__": ["place"]},
        "NothingThere": {"__init__": ["place"]},
        "LineError": {"__init__": ["line"]},
        "NoSuchObject": {"__init__": ["name"]},
        "NotHere": {"__init__": ["name"]},
        "BadPeer": {"__init__": ["peer"]},
        "NoSuchMessage": {"__init__": ["sender", "number"]},
        "PowerCut": {"__init__": ["written"]},
        "NotTogether": {},
        "ShutError": {},
    },
    "graphtwins.states": {
        "State": {
            "__init__": [], "take": ["change"], "value": ["name", "field"], "stamp": ["name", "field"],
            "fields": ["name"], "names": [], "changes": [], "copy": [],
        },
    },
    "graphtwins.replicas": {
        "Replica": {
            "__init__": ["peer"], "knows": ["name"], "begin": [], "put": ["name", "field", "value"], "hold": ["name"],
            "drop": ["name"], "count": ["sender"], "version": [], "missing": ["sender", "number"], "send": [],
            "copy_of": ["sender", "number"], "accept": ["sender", "number", "changes"], "receive": ["octets"], "graph": [],
        },
    },
    "graphtwins.channels": {
        "Channel": {
            "__init__": [], "put": ["octets"], "lose": ["place"], "double": ["place"], "exchange": ["place", "other"],
            "damage": ["place", "spot", "octet"], "cut": ["place", "length"], "take": ["place"],
        },
    },
    "graphtwins.lazy": {
        "LazyPeer": {
            "__init__": [], "take_in": ["changes"], "fetch": ["state", "names"], "is_here": ["name"],
            "value": ["name", "field"], "fields": ["name"], "stubs": [], "forget": ["name"],
        },
    },
    "graphtwins.undoing": {
        "Undoer": {
            "__init__": ["replica"], "put": ["name", "field", "value"], "holds": ["change"], "undo": [], "redo": [],
        },
    },
    "graphtwins.watches": {
        "Watcher": {"__init__": ["state"], "watch": ["path"], "news": ["state"], "touched": ["changes"]},
    },
    "graphtwins.network": {
        "Network": {
            "__init__": ["many"], "say": ["peer"], "hand_on": ["one", "other", "sender", "number"],
            "deliver": ["one", "other", "place"], "under_way": [], "settle": [],
        },
    },
    "graphtwins.journal": {
        "Device": {"__init__": ["octets", "power"], "append": ["octet"]},
        "JournaledReplica": {"__init__": ["replica", "device"], "send": [], "receive": ["message"]},
    },
}

# For each class what its objects are made of, and the fields that are set then.
FIELDS = {
    ("graphtwins.errors", "CodeError"): ([3], ["place"]),
    ("graphtwins.errors", "NothingThere"): ([3], ["place"]),
    ("graphtwins.errors", "LineError"): ([3], ["line"]),
    ("graphtwins.errors", "NoSuchObject"): ([(1, 2)], ["name"]),
    ("graphtwins.errors", "NotHere"): ([(1, 2)], ["name"]),
    ("graphtwins.errors", "BadPeer"): ([9], ["peer"]),
    ("graphtwins.errors", "NoSuchMessage"): ([1, 2], ["sender", "number"]),
    ("graphtwins.errors", "PowerCut"): ([3], ["written"]),
    ("graphtwins.states", "State"): ([], ["cells"]),
    ("graphtwins.replicas", "Replica"): ([3], ["peer", "clock", "made", "state", "roots", "pending", "messages"]),
    ("graphtwins.channels", "Channel"): ([], ["under_way"]),
    ("graphtwins.lazy", "LazyPeer"): ([], ["state", "here"]),
    ("graphtwins.network", "Network"): ([3], ["replicas", "channels"]),
    ("graphtwins.journal", "Device"): ([[1, 2], 3], ["octets", "power"]),
    ("graphtwins.journal", "JournaledReplica"): ([None, None], ["replica", "device", "shut"]),
}


def arguments(function):
    return list(inspect.signature(function).parameters)


class InterfaceCase(unittest.TestCase):
    def test_functions(self):
        for module, functions in FUNCTIONS.items():
            for name, expected in functions.items():
                function = getattr(importlib.import_module(module), name)
                self.assertTrue(inspect.isfunction(function), name)
                self.assertEqual(function.__module__, module, name)
                self.assertEqual(arguments(function), expected, name)

    def test_classes(self):
        for module, classes in CLASSES.items():
            for name, methods in classes.items():
                kind = getattr(importlib.import_module(module), name)
                self.assertTrue(inspect.isclass(kind), name)
                self.assertEqual(kind.__module__, module, name)
                for method, expected in methods.items():
                    self.assertIn(method, vars(kind), name)
                    self.assertEqual(arguments(vars(kind)[method])[1:], expected, (name, method))

    def test_fields(self):
        for (module, name), (given, fields) in FIELDS.items():
            thing = getattr(importlib.import_module(module), name)(*given)
            for field in fields:
                self.assertIn(field, vars(thing), (name, field))

    def test_root(self):
        self.assertEqual(importlib.import_module("graphtwins.values").ROOT, (0, 0))


if __name__ == "__main__":
    unittest.main()
