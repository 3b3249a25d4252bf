"""The functions of the interface stand in their files, with the arguments that the document lists."""

import importlib
import inspect
import unittest

FUNCTIONS = {
    "values": {
        "is_value": ["thing"], "kind_of": ["value"], "convert": ["value", "kind"], "plain_value": ["kind", "nullable"],
        "cut": ["text", "separator"], "glue": ["first", "second", "separator"],
    },
    "conditions": {
        "fits": ["condition", "columns"], "holds": ["condition", "names", "row"], "mentions": ["condition", "name"],
        "renamed": ["condition", "old", "new"],
    },
    "schema": {
        "check_schema": ["schema"], "copy_schema": ["schema"], "column_names": ["description"],
        "is_used": ["description", "column"], "is_referenced": ["schema", "table"],
    },
    "states": {
        "empty_state": ["schema"], "copy_state": ["state"], "fits_schema": ["schema", "state"],
        "first_fault": ["schema", "state"], "rows": ["state", "table"],
    },
    "edits": {
        "apply_write": ["schema", "state", "edits"], "difference": ["schema", "before", "after"], "touched": ["edits"],
    },
    "steps": {"target_schema": ["schema", "step"], "script_schema": ["schema", "script"]},
    "columns": {
        "column_right": ["schema", "step", "left", "complement"],
        "column_left": ["schema", "step", "right", "complement"],
    },
    "tables": {
        "table_right": ["schema", "step", "left", "complement"],
        "table_left": ["schema", "step", "right", "complement"],
    },
    "groups": {
        "group_right": ["schema", "step", "left", "complement"],
        "group_left": ["schema", "step", "right", "complement"],
    },
    "limits": {
        "limit_right": ["schema", "step", "left", "complement"],
        "limit_left": ["schema", "step", "right", "complement"],
    },
    "lens": {
        "empty_complement": ["step"],
        "put_right": ["schema", "step", "left", "complement"],
        "put_left": ["schema", "step", "right", "complement"],
    },
}


class InterfaceTest(unittest.TestCase):
    def test_functions(self):
        for file, functions in FUNCTIONS.items():
            module = importlib.import_module("lenstree." + file)
            for name, arguments in functions.items():
                with self.subTest(file=file, name=name):
                    function = getattr(module, name)
                    self.assertEqual(function.__module__, "lenstree." + file)
                    self.assertEqual(list(inspect.signature(function).parameters), arguments)


if __name__ == "__main__":
    unittest.main()
