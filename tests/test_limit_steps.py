"""Point 17: the right schemas and the errors of the steps on constraints."""

import unittest

from tests.step_case import KEY, StepCase
from tests.support import described, only

NAME = ("name", "text", True)
AGE = ("age", "int", True)
TOWN = ("town", "int", False)
WORD = ("word", "text", False)
COLUMNS = [KEY, NAME, AGE, TOWN, WORD]
YOUNG = only("age", "<", 18)
GROWN = only("age", ">=", 18)
BAD_CONDITIONS = (only("nope", "=", 1), only("age", "=", "1"), only("word", "=", 1), only("age", "=", 1000000000))
PLACE = described([("nr", "int", False), ("town", "int", True)], [only("nr", ">", 0)], ["town"], [("town", "land")])
LAND = described([("nr", "int", False)])
PERSON = described(COLUMNS, [YOUNG, ()], ["name", "age"], [("town", "place"), ("age", "land")])
SCHEMA = {"person": PERSON, "place": PLACE, "land": LAND}


class AddCheckTest(StepCase):
    def test_right_schema(self):
        for condition in (GROWN, YOUNG, (), ((),), ((("word", "=", ""), ("id", "null", None)), ())):
            person = {**PERSON, "checks": [YOUNG, (), condition]}
            self.changes(SCHEMA, ("add_check", "person", condition), {"person": person})

    def test_the_fourth_check(self):
        schema = {"a": described(COLUMNS, [YOUNG] * 3)}
        self.gives(schema, ("add_check", "a", GROWN), {"a": described(COLUMNS, [YOUNG] * 3 + [GROWN])})

    def test_errors(self):
        self.fails(SCHEMA, ("add_check", "nope", YOUNG), "missing")
        for condition in BAD_CONDITIONS:
            self.fails(SCHEMA, ("add_check", "person", condition), "condition")
        self.fails(SCHEMA, ("add_check", "place", ((),)), "referenced")
        self.fails({"a": described(COLUMNS, [YOUNG] * 4)}, ("add_check", "a", GROWN), "limit")

    def test_order_of_errors(self):
        place = {**PLACE, "checks": [((),)] * 4}
        schema = {**SCHEMA, "place": place}
        self.fails(schema, ("add_check", "nope", BAD_CONDITIONS[0]), "missing")
        self.fails(schema, ("add_check", "place", BAD_CONDITIONS[0]), "condition")
        self.fails(schema, ("add_check", "place", ((),)), "referenced")


class DropCheckTest(StepCase):
    def test_right_schema(self):
        self.changes(SCHEMA, ("drop_check", "person", YOUNG), {"person": {**PERSON, "checks": [()]}})
        self.changes(SCHEMA, ("drop_check", "person", ()), {"person": {**PERSON, "checks": [YOUNG]}})

    def test_the_first_one_that_equals_it(self):
        schema = {"a": described(COLUMNS, [GROWN, YOUNG, ((),), YOUNG])}
        self.gives(schema, ("drop_check", "a", YOUNG), {"a": described(COLUMNS, [GROWN, ((),), YOUNG])})

    def test_errors(self):
        self.fails(SCHEMA, ("drop_check", "nope", YOUNG), "missing")
        for condition in (GROWN, ((),), only("age", "<", 19), only("nope", "<", 18)):
            self.fails(SCHEMA, ("drop_check", "person", condition), "missing")
        self.fails(SCHEMA, ("drop_check", "land", YOUNG), "missing")
        self.fails(SCHEMA, ("drop_check", "place", only("nr", ">", 0)), "referenced")

    def test_order_of_errors(self):
        self.fails(SCHEMA, ("drop_check", "place", YOUNG), "missing")


class AddUniqueTest(StepCase):
    def test_right_schema(self):
        for column in ("town", "word"):
            person = {**PERSON, "uniques": ["name", "age", column]}
            self.changes(SCHEMA, ("add_unique", "person", column), {"person": person})

    def test_the_fourth_unique(self):
        schema = {"a": described(COLUMNS, (), ["name", "word", "age"])}
        self.gives(schema, ("add_unique", "a", "town"), {"a": described(COLUMNS, (), ["name", "word", "age", "town"])})

    def test_errors(self):
        self.fails(SCHEMA, ("add_unique", "nope", "word"), "missing")
        self.fails(SCHEMA, ("add_unique", "person", "nope"), "missing")
        self.fails(SCHEMA, ("add_unique", "person", "id"), "key")
        self.fails(SCHEMA, ("add_unique", "person", "age"), "taken")
        self.fails(SCHEMA, ("add_unique", "person", "name"), "taken")
        schema = {**SCHEMA, "place": {**PLACE, "uniques": []}}
        self.fails(schema, ("add_unique", "place", "town"), "referenced")
        columns = COLUMNS + [("more", "int", True)]
        full = {"a": described(columns, (), ["name", "word", "age", "town"])}
        self.fails(full, ("add_unique", "a", "more"), "limit")

    def test_order_of_errors(self):
        columns = COLUMNS + [("more", "int", True)]
        place = described(columns, (), ["name", "word", "age", "town"])
        schema = {"person": described([KEY, AGE], (), (), [("age", "place")]), "place": place}
        self.fails(schema, ("add_unique", "place", "nope"), "missing")
        self.fails(schema, ("add_unique", "place", "id"), "key")
        self.fails(schema, ("add_unique", "place", "age"), "taken")
        self.fails(schema, ("add_unique", "place", "more"), "referenced")


class DropUniqueTest(StepCase):
    def test_right_schema(self):
        self.changes(SCHEMA, ("drop_unique", "person", "name"), {"person": {**PERSON, "uniques": ["age"]}})
        self.changes(SCHEMA, ("drop_unique", "person", "age"), {"person": {**PERSON, "uniques": ["name"]}})

    def test_errors(self):
        self.fails(SCHEMA, ("drop_unique", "nope", "name"), "missing")
        for column in ("nope", "word", "id", "town"):
            self.fails(SCHEMA, ("drop_unique", "person", column), "missing")
        self.fails(SCHEMA, ("drop_unique", "place", "town"), "referenced")

    def test_order_of_errors(self):
        self.fails(SCHEMA, ("drop_unique", "place", "nr"), "missing")
        self.fails(SCHEMA, ("drop_unique", "land", "town"), "missing")


class AddReferenceTest(StepCase):
    columns = [KEY] + [(f"c{number}", "int", True) for number in range(1, 6)]

    def test_right_schema(self):
        person = {**PERSON, "references": PERSON["references"] + [("age", "place")]}
        self.changes(SCHEMA, ("add_reference", "person", "age", "place"), {"person": person})
        person = {**PERSON, "references": PERSON["references"] + [("town", "land")]}
        self.changes(SCHEMA, ("add_reference", "person", "town", "land"), {"person": person})

    def test_a_key_of_kind_text(self):
        schema = {**SCHEMA, "title": described([("t", "text", False)])}
        for column in ("name", "word"):
            person = {**PERSON, "references": PERSON["references"] + [(column, "title")]}
            self.changes(schema, ("add_reference", "person", column, "title"), {"person": person})

    def test_the_fourth_reference(self):
        references = [("c1", "land"), ("c2", "land"), ("c3", "land")]
        schema = {"a": described(self.columns, (), (), references), "land": LAND}
        expected = described(self.columns, (), (), references + [("c4", "land")])
        self.changes(schema, ("add_reference", "a", "c4", "land"), {"a": expected})

    def test_errors(self):
        self.fails(SCHEMA, ("add_reference", "nope", "age", "place"), "missing")
        self.fails(SCHEMA, ("add_reference", "person", "nope", "place"), "missing")
        self.fails(SCHEMA, ("add_reference", "person", "nr", "place"), "missing")
        self.fails(SCHEMA, ("add_reference", "person", "age", "nope"), "missing")
        self.fails(SCHEMA, ("add_reference", "person", "id", "place"), "key")
        self.fails(SCHEMA, ("add_reference", "person", "age", "person"), "columns")
        self.fails(SCHEMA, ("add_reference", "person", "word", "place"), "kind")
        schema = {**SCHEMA, "title": described([("t", "text", False), ("n", "int", False)])}
        self.fails(schema, ("add_reference", "person", "age", "title"), "kind")
        self.fails(SCHEMA, ("add_reference", "person", "age", "land"), "taken")
        self.fails(SCHEMA, ("add_reference", "person", "town", "place"), "taken")
        schema = {**SCHEMA, "new": LAND}
        self.fails(schema, ("add_reference", "place", "town", "new"), "referenced")
        references = [(f"c{number}", "land") for number in range(1, 5)]
        schema = {"a": described(self.columns, (), (), references), "land": LAND}
        self.fails(schema, ("add_reference", "a", "c5", "land"), "limit")

    def test_order_of_errors(self):
        columns = self.columns + [("t", "text", True)]
        references = [(f"c{number}", "land") for number in range(1, 5)]
        schema = {
            "a": described(columns, (), (), references), "b": described([KEY, AGE], (), (), [("age", "a")]),
            "land": LAND, "title": described([("t", "text", False)]),
        }
        self.fails(schema, ("add_reference", "a", "id", "nope"), "missing")
        self.fails(schema, ("add_reference", "a", "nope", "a"), "missing")
        self.fails(schema, ("add_reference", "a", "id", "a"), "key")
        self.fails(schema, ("add_reference", "a", "id", "title"), "key")
        self.fails(schema, ("add_reference", "a", "t", "a"), "columns")
        self.fails(schema, ("add_reference", "a", "t", "land"), "kind")
        self.fails(schema, ("add_reference", "a", "c1", "land"), "taken")
        self.fails(schema, ("add_reference", "a", "c5", "land"), "referenced")


class DropReferenceTest(StepCase):
    def test_right_schema(self):
        person = {**PERSON, "references": [("age", "land")]}
        self.changes(SCHEMA, ("drop_reference", "person", "town", "place"), {"person": person})
        person = {**PERSON, "references": [("town", "place")]}
        self.changes(SCHEMA, ("drop_reference", "person", "age", "land"), {"person": person})

    def test_errors(self):
        self.fails(SCHEMA, ("drop_reference", "nope", "town", "place"), "missing")
        for column, other in (
            ("town", "land"), ("age", "place"), ("nope", "place"), ("town", "nope"), ("town", "person"), ("id", "land"),
        ):
            self.fails(SCHEMA, ("drop_reference", "person", column, other), "missing")
        self.fails(SCHEMA, ("drop_reference", "place", "town", "land"), "referenced")

    def test_order_of_errors(self):
        self.fails(SCHEMA, ("drop_reference", "place", "nr", "land"), "missing")
        self.fails(SCHEMA, ("drop_reference", "land", "town", "place"), "missing")


if __name__ == "__main__":
    unittest.main()
