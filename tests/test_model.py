"""Points 39 to 43: the plain meaning of a store."""

import unittest

from lenstree.model import Model
from lenstree.tree import Tree
from tests.store_case import SCHEMA, StoreCase
from tests.store_tests import EvolveTests, NewTests, WriteTests
from tests.store_tree_tests import PruneTests, RebaseTests


class ModelCase(StoreCase):
    def made(self, schema):
        return Model(schema)


class ModelTreeTest(ModelCase):
    def test_the_tree_is_an_attribute(self):
        self.assertIs(type(self.made(SCHEMA).tree), Tree)


class ModelNewTest(NewTests, ModelCase):
    pass


class ModelEvolveTest(EvolveTests, ModelCase):
    pass


class ModelWriteTest(WriteTests, ModelCase):
    pass


class ModelPruneTest(PruneTests, ModelCase):
    pass


class ModelRebaseTest(RebaseTests, ModelCase):
    pass


if __name__ == "__main__":
    unittest.main()
