"""What the tests of lenses share."""

import copy
import unittest

from lenstree.errors import LensError
from lenstree.states import fits_schema
from lenstree.steps import target_schema
from tests.support import called, raised


class LensCase(unittest.TestCase):
    """A class below gives `put_right` and `put_left` (as static methods) and sets `schema` and `step`."""

    put_right = None
    put_left = None
    schema = None
    step = None

    def right(self, left, complement, expected, new_complement):
        """See what put right gives, whole."""
        self.put(self.put_right, self.schema, self.target(), left, complement, expected, new_complement)

    def left(self, right, complement, expected, new_complement):
        """See what put left gives, whole."""
        self.put(self.put_left, self.target(), self.schema, right, complement, expected, new_complement)

    def target(self):
        return target_schema(self.schema, self.step)

    def put(self, function, here, there, state, complement, expected, new_complement):
        self.assertTrue(fits_schema(here, state), state)
        result = called(self, function, self.schema, self.step, state, complement)
        self.assertIs(type(result), tuple)
        self.assertEqual(len(result), 2)
        self.assertEqual(result[0], expected)
        self.assertEqual(result[1], new_complement)
        self.assertTrue(fits_schema(there, result[0]), result[0])
        # What was returned first stays as it was, whatever happens to the arguments or to later results.
        again = function(copy.deepcopy(self.schema), self.step, copy.deepcopy(state), copy.deepcopy(complement))
        for part in again:
            for item in part.values():
                item.clear()
            part.clear()
        self.assertEqual(function(self.schema, self.step, state, complement), (expected, new_complement))

    def right_fails(self, left, complement, code, table, key):
        self.put_fails(self.put_right, self.schema, left, complement, (code, table, key))

    def left_fails(self, right, complement, code, table, key):
        self.put_fails(self.put_left, self.target(), right, complement, (code, table, key))

    def put_fails(self, function, here, state, complement, expected):
        self.assertTrue(fits_schema(here, state), state)
        error = raised(self, LensError, function, self.schema, self.step, state, complement)
        self.assertEqual((error.code, error.table, error.key), expected)
