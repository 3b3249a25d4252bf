"""The functions and classes of the interface stand in their files, with the arguments that the document lists."""

import importlib
import inspect
import unittest

from lenstree.disk import Disk
from lenstree.engine import Engine
from lenstree.model import Model
from lenstree.restore import stored_from
from lenstree.stored import Stored
from lenstree.tree import Tree

FUNCTIONS = {
    "values": {
        "is_value": ["thing"], "kind_of": ["value"], "convert": ["value", "kind"], "plain_value": ["kind", "nullable"],
        "cut": ["text", "separator"], "glue": ["first", "second", "separator"],
    },
    "conditions": {
        "fits": ["condition", "columns"], "holds": ["condition", "names", "row"], "mentions": ["condition", "name"],
        "renamed": ["condition", "old", "new"],
    },
    "schema": {
        "check_schema": ["schema"], "copy_schema": ["schema"], "column_names": ["description"],
        "is_used": ["description", "column"], "is_referenced": ["schema", "table"],
    },
    "states": {
        "empty_state": ["schema"], "copy_state": ["state"], "fits_schema": ["schema", "state"],
        "first_fault": ["schema", "state"], "rows": ["state", "table"],
    },
    "edits": {
        "apply_write": ["schema", "state", "edits"], "difference": ["schema", "before", "after"], "touched": ["edits"],
    },
    "steps": {"target_schema": ["schema", "step"], "script_schema": ["schema", "script"]},
    "columns": {
        "column_right": ["schema", "step", "left", "complement"],
        "column_left": ["schema", "step", "right", "complement"],
    },
    "tables": {
        "table_right": ["schema", "step", "left", "complement"],
        "table_left": ["schema", "step", "right", "complement"],
    },
    "groups": {
        "group_right": ["schema", "step", "left", "complement"],
        "group_left": ["schema", "step", "right", "complement"],
    },
    "limits": {
        "limit_right": ["schema", "step", "left", "complement"],
        "limit_left": ["schema", "step", "right", "complement"],
    },
    "lens": {
        "empty_complement": ["step"],
        "put_right": ["schema", "step", "left", "complement"],
        "put_left": ["schema", "step", "right", "complement"],
    },
    "forms": {"fits_step": ["schema", "step", "complement"]},
    "scripts": {
        "empty_complements": ["script"],
        "script_right": ["schema", "script", "left", "complements"],
        "script_left": ["schema", "script", "right", "complements"],
    },
    "restore": {"stored_from": ["image"]},
    "queries": {"query_columns": ["schema", "query"]},
    "answers": {"answer": ["schema", "state", "query"]},
    "records": {"pack": ["data"], "unpack": ["numbers"]},
    "journal": {"frame": ["record"], "records_of": ["numbers"]},
    "engine": {"recover": ["disk"]},
}
CLASSES = {
    "tree": {
        "Tree": {
            "__init__": ["schema"], "numbers": [], "nodes": [], "is_live": ["number"], "parent": ["number"],
            "script": ["number"], "schema": ["number"], "children": ["number"], "walk": ["number"],
            "path": ["start", "end"], "next_number": [], "add": ["parent", "script"], "prune": ["number"],
            "rebase": ["number", "parent"], "copy_tree": [], "outline": [],
        },
    },
    "model": {
        "Model": {
            "__init__": ["schema"], "show": ["version"], "complements": ["node"], "evolve": ["parent", "script"],
            "write": ["version", "edits"], "prune": ["version"], "rebase": ["version", "parent"],
        },
    },
    "stored": {
        "Stored": {
            "__init__": ["schema"], "show": ["version"], "complements": ["node"], "evolve": ["parent", "script"],
            "write": ["version", "edits"], "prune": ["version"], "rebase": ["version", "parent"], "home": [],
            "kept": [], "begin_move": ["version"], "advance": ["count"], "stop_move": [], "move_view": [], "image": [],
        },
    },
    "transactions": {
        "Desk": {
            "__init__": ["store"], "begin": ["version"], "read": ["number", "table", "key"],
            "scan": ["number", "table"], "edit": ["number", "edits"], "commit": ["number"], "abort": ["number"],
            "open_numbers": [],
        },
    },
    "disk": {
        "Disk": {
            "__init__": [], "append": ["area", "numbers"], "sync": ["area"], "wipe": ["area"],
            "limit_power": ["units"], "contents": ["area"], "durable": ["area"], "restarted": ["count"],
        },
    },
    "engine": {
        "Engine": {
            "__init__": ["disk", "schema"], "show": ["version"], "complements": ["node"], "home": [], "kept": [],
            "move_view": [], "image": [], "evolve": ["parent", "script"], "write": ["version", "edits"],
            "prune": ["version"], "rebase": ["version", "parent"], "begin_move": ["version"], "advance": ["count"],
            "stop_move": [], "checkpoint": [], "generation": [], "query": ["version", "query"],
        },
    },
}


class InterfaceTest(unittest.TestCase):
    def test_functions(self):
        for file, functions in FUNCTIONS.items():
            module = importlib.import_module("lenstree." + file)
            for name, arguments in functions.items():
                with self.subTest(file=file, name=name):
                    function = getattr(module, name)
                    self.assertEqual(function.__module__, "lenstree." + file)
                    self.assertEqual(list(inspect.signature(function).parameters), arguments)

    def test_classes(self):
        """Each method stands in the class itself."""
        for file, classes in CLASSES.items():
            module = importlib.import_module("lenstree." + file)
            for name, methods in classes.items():
                owner = getattr(module, name)
                self.assertEqual(owner.__module__, "lenstree." + file)
                for method, arguments in methods.items():
                    with self.subTest(file=file, name=name, method=method):
                        found = list(inspect.signature(vars(owner)[method]).parameters)
                        self.assertEqual(found, ["self"] + arguments)

    def test_the_trees_of_stores(self):
        """An attribute that is listed is set on each object when it is created."""
        for store in (Model({}), Stored({}), stored_from(Stored({}).image()), Engine(Disk(), {})):
            self.assertIs(type(vars(store)["tree"]), Tree)


if __name__ == "__main__":
    unittest.main()
