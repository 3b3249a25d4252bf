"""Point 52 on random queries from fixed seeds, beside slow answers that are written straight from the point."""

import random
import unittest

from lenstree.answers import answer
from lenstree.errors import QueryError
from lenstree.queries import query_columns
from tests.query_case import SCHEMA
from tests.query_runs import Refused, any_query, any_state, slow
from tests.support import called, raised


class QueryRunsTest(unittest.TestCase):
    def test_queries_of_all_forms(self):
        forms, codes = {}, {}
        for seed in range(4000):
            source = random.Random(seed)
            state = any_state(source)
            query = any_query(source, SCHEMA, source.randrange(1, 6))
            with self.subTest(seed=seed, query=query):
                try:
                    columns, rows = slow(SCHEMA, state, query)
                except Refused as error:
                    code = error.args[0]
                    codes[code] = codes.get(code, 0) + 1
                    self.assertEqual(raised(self, QueryError, query_columns, SCHEMA, query).code, code)
                    self.assertEqual(raised(self, QueryError, answer, SCHEMA, state, query).code, code)
                else:
                    forms[query[0]] = forms.get(query[0], 0) + (rows != [])
                    self.assertEqual(called(self, query_columns, SCHEMA, query), columns)
                    self.assertEqual(called(self, answer, SCHEMA, state, query), rows)
        self.assertEqual(len(forms), 11)
        self.assertGreater(min(forms.values()), 20, forms)
        self.assertEqual(len(codes), 6)
        self.assertGreater(min(codes.values()), 20, codes)


if __name__ == "__main__":
    unittest.main()
