"""Points 20, 30 and 31: the lenses of the steps on constraints."""

import unittest

from lenstree.limits import limit_left, limit_right
from tests.lens_case import LensCase
from tests.support import described, only

KEY = ("id", "int", False)
TOWN = {"ulm": (1,), "": (0,), "7": (7,)}
TOWN_TABLE = described([("name", "text", False), ("size", "int", False)])


class LimitCase(LensCase):
    """`bind` goes to the side with the constraint, `release` to the side without it. The other tables stay."""

    put_right = staticmethod(limit_right)
    put_left = staticmethod(limit_left)
    town = TOWN

    def use(self, schema, step):
        self.schema = {"town": TOWN_TABLE, **schema}
        self.step = step

    def all_of(self, table_rows):
        return {"town": self.town, "person": table_rows}


class AddingCase(LimitCase):
    def bind(self, free, complement, bound, new_complement):
        self.right(self.all_of(free), complement, self.all_of(bound), new_complement)

    def release(self, bound, complement, free, new_complement):
        self.left(self.all_of(bound), complement, self.all_of(free), new_complement)

    def release_fails(self, bound, complement, key):
        self.left_fails(self.all_of(bound), complement, "hidden", "person", key)


class DroppingCase(LimitCase):
    def bind(self, free, complement, bound, new_complement):
        self.left(self.all_of(free), complement, self.all_of(bound), new_complement)

    def release(self, bound, complement, free, new_complement):
        self.right(self.all_of(bound), complement, self.all_of(free), new_complement)

    def release_fails(self, bound, complement, key):
        self.right_fails(self.all_of(bound), complement, "hidden", "person", key)


class CheckTests:
    """The check: the age is above 17, or the word is "y" and the key is above 5."""

    columns = [KEY, ("age", "int", True), ("word", "text", False)]
    condition = ((("age", ">", 17),), (("word", "=", "y"), ("id", ">", 5)))

    def test_bind(self):
        good = {1: (18, "x"), 7: (0, "y"), 6: (None, "y"), 2: (20, "")}
        bad = {3: (17, "x"), 5: (0, "y"), 8: (None, "z")}
        self.bind({}, {"hidden": {}}, {}, {"hidden": {}})
        self.bind(good, {"hidden": {}}, good, {"hidden": {}})
        self.bind(bad, {"hidden": {}}, {}, {"hidden": bad})
        self.bind({**bad, **good}, {"hidden": {}}, good, {"hidden": bad})

    def test_bind_does_not_ask_the_complement(self):
        good = {1: (18, "x")}
        bad = {3: (17, "x")}
        for hidden in (good, bad, {1: (17, "x"), 3: (18, "x")}, {9: (17, "x")}):
            self.bind({**bad, **good}, {"hidden": hidden}, good, {"hidden": bad})

    def test_release(self):
        good = {1: (18, "x"), 7: (0, "y")}
        bad = {3: (17, "x"), 0: (None, "")}
        self.release({}, {"hidden": {}}, {}, {"hidden": {}})
        self.release(good, {"hidden": {}}, good, {"hidden": {}})
        self.release({}, {"hidden": bad}, bad, {"hidden": bad})
        self.release(good, {"hidden": bad}, {**good, **bad}, {"hidden": bad})

    def test_hidden_rows_for_which_the_condition_holds(self):
        hidden = {1: (5, "x"), 2: (50, "x"), 7: (0, "y"), 3: (0, "y")}
        stay = {1: (5, "x"), 3: (0, "y")}
        self.release({9: (18, "z")}, {"hidden": hidden}, {9: (18, "z"), **stay}, {"hidden": stay})
        # Such a row is no obstacle either.
        self.release({2: (18, "z"), 7: (19, "")}, {"hidden": hidden}, {2: (18, "z"), 7: (19, ""), **stay},
                     {"hidden": stay})

    def test_release_of_rows_that_break_the_check(self):
        """The states of the bound side need not be sound."""
        self.release({4: (1, "x")}, {"hidden": {5: (2, "x")}}, {4: (1, "x"), 5: (2, "x")}, {"hidden": {5: (2, "x")}})

    def test_release_fails(self):
        bound = {key: (18, "x") for key in (8, 2, 5, 3)}
        self.release_fails(bound, {"hidden": {3: (0, "")}}, 3)
        self.release_fails(bound, {"hidden": {8: (0, ""), 5: (0, ""), 1: (0, ""), 9: (0, "")}}, 5)
        self.release_fails(bound, {"hidden": {2: (18, "x"), 5: (0, ""), 8: (None, "")}}, 5)
        self.release_fails({4: (1, "x")}, {"hidden": {4: (1, "x")}}, 4)

    def test_the_conditions_that_always_and_never_hold(self):
        people = {1: (18, "x"), 2: (None, "")}
        self.use_condition(())
        self.bind(people, {"hidden": {}}, {}, {"hidden": people})
        self.release({}, {"hidden": people}, people, {"hidden": people})
        self.use_condition(((),))
        self.bind(people, {"hidden": people}, people, {"hidden": {}})
        self.release({1: (0, "z")}, {"hidden": people}, {1: (0, "z")}, {"hidden": {}})


class AddCheckTest(CheckTests, AddingCase):
    def setUp(self):
        self.use_condition(self.condition)

    def use_condition(self, condition):
        self.use({"person": described(self.columns)}, ("add_check", "person", condition))


class DropCheckTest(CheckTests, DroppingCase):
    def setUp(self):
        self.use_condition(self.condition)

    def use_condition(self, condition):
        self.use({"person": described(self.columns, [condition])}, ("drop_check", "person", condition))


def unique(hidden, shown):
    """Return a complement of add_unique."""
    return {"hidden": hidden, "shown": shown}


class UniqueTests:
    """The column `mail` is a nullable text that is unique on the bound side; `age` is not."""

    columns = [KEY, ("age", "int", False), ("mail", "text", True)]

    def test_bind_with_the_empty_complement(self):
        self.bind({}, unique({}, {}), {}, unique({}, {}))
        people = {1: (0, "a"), 2: (0, "b"), 3: (0, ""), 4: (0, None), 5: (0, None)}
        self.bind(people, unique({}, {}), people, unique({}, people))

    def test_bind_takes_the_least_key(self):
        people = {10: (0, "a"), 9: (0, "a"), -5: (1, "b"), 11: (2, "a"), -6: (3, "b"), 4: (0, "c")}
        shown = {9: (0, "a"), -6: (3, "b"), 4: (0, "c")}
        hidden = {10: (0, "a"), 11: (2, "a"), -5: (1, "b")}
        self.bind(people, unique({}, {}), shown, unique(hidden, shown))

    def test_null_is_equal_to_nothing(self):
        people = {1: (0, None), 2: (0, None), 3: (0, "")}
        self.bind(people, unique({}, {}), people, unique({}, people))
        self.bind(people, unique({}, {2: (0, None)}), people, unique({}, people))

    def test_rows_that_are_still_hidden(self):
        people = {1: (0, "a"), 2: (0, "a"), 3: (0, "c")}
        self.bind(people, unique({1: (0, "a")}, {}), {2: (0, "a"), 3: (0, "c")},
                  unique({1: (0, "a")}, {2: (0, "a"), 3: (0, "c")}))
        # A hidden row stays hidden, also if nothing is in its way, or its value is null.
        self.bind(people, unique({3: (0, "c")}, {}), {1: (0, "a")},
                  unique({2: (0, "a"), 3: (0, "c")}, {1: (0, "a")}))
        self.bind({1: (0, None)}, unique({1: (0, None)}, {}), {}, unique({1: (0, None)}, {}))
        # It does not take its value from others.
        self.bind(people, unique({1: (0, "a")}, {1: (0, "a")}), {2: (0, "a"), 3: (0, "c")},
                  unique({1: (0, "a")}, {2: (0, "a"), 3: (0, "c")}))

    def test_hidden_rows_that_have_changed(self):
        people = {1: (0, "a"), 2: (0, "b")}
        for old in ({1: (1, "a")}, {1: (0, "b")}, {1: (0, None)}, {3: (0, "a")}):
            self.bind(people, unique(old, {}), people, unique({}, people))
        clash = {1: (0, "a"), 2: (0, "a")}
        self.bind(clash, unique({1: (1, "a")}, {}), {1: (0, "a")}, unique({2: (0, "a")}, {1: (0, "a")}))

    def test_shown_rows_come_first(self):
        people = {1: (0, "a"), 2: (0, "a"), 3: (0, "a")}
        self.bind(people, unique({}, {3: (0, "a")}), {3: (0, "a")}, unique({1: (0, "a"), 2: (0, "a")}, {3: (0, "a")}))
        self.bind(people, unique({}, {3: (0, "a"), 2: (0, "a")}), {2: (0, "a")},
                  unique({1: (0, "a"), 3: (0, "a")}, {2: (0, "a")}))

    def test_shown_rows_in_ascending_order(self):
        people = {10: (0, "a"), 3: (0, "a"), 2: (0, "a"), 1: (0, "a")}
        for shown in ({10: (0, "a"), 3: (0, "a")}, {3: (0, "a"), 10: (0, "a")}):
            self.bind(people, unique({}, shown), {3: (0, "a")},
                      unique({key: (0, "a") for key in (1, 2, 10)}, {3: (0, "a")}))

    def test_shown_rows_that_have_changed_come_later(self):
        people = {1: (0, "a"), 2: (0, "a")}
        for old in ({2: (1, "a")}, {2: (0, "b")}, {2: (0, None)}, {5: (0, "a")}):
            self.bind(people, unique({}, old), {1: (0, "a")}, unique({2: (0, "a")}, {1: (0, "a")}))

    def test_several_values_in_both_groups(self):
        people = {1: (0, "a"), 2: (0, "b"), 3: (0, "a"), 4: (0, "b"), 5: (0, "c"), 6: (0, "c"), 7: (0, "a")}
        shown = {3: (0, "a"), 4: (0, "b"), 7: (0, "a"), 9: (0, "c")}
        expected = {3: (0, "a"), 4: (0, "b"), 5: (0, "c")}
        hidden = {key: people[key] for key in (1, 2, 6, 7)}
        self.bind(people, unique({}, shown), expected, unique(hidden, expected))

    def test_release(self):
        bound = {1: (0, "a"), 2: (0, "b")}
        for shown in ({}, bound, {1: (0, "z"), 9: (0, "a")}):
            self.release(bound, unique({}, shown), bound, unique({}, bound))
            hidden = {3: (0, "a"), 4: (0, None)}
            self.release(bound, unique(hidden, shown), {**bound, **hidden}, unique(hidden, bound))
            self.release({}, unique(hidden, shown), hidden, unique(hidden, {}))

    def test_release_of_rows_that_are_not_unique(self):
        bound = {1: (0, "a"), 2: (0, "a")}
        self.release(bound, unique({}, {}), bound, unique({}, bound))

    def test_release_fails(self):
        bound = {key: (0, None) for key in (8, 2, 5, 3)}
        self.release_fails(bound, unique({3: (0, "a")}, {}), 3)
        self.release_fails(bound, unique({8: (0, "a"), 5: (0, None), 1: (0, "a"), 9: (0, "a")}, bound), 5)
        self.release_fails({4: (0, "a")}, unique({4: (0, "a")}, {}), 4)

    def test_keys_that_are_texts(self):
        self.use_columns([("code", "text", False), ("nr", "int", False)])
        people = {"9": (1,), "10": (1,), "a": (2,), "B": (2,), "": (3,), " ": (3,)}
        shown = {"10": (1,), "B": (2,), "": (3,)}
        hidden = {"9": (1,), "a": (2,), " ": (3,)}
        self.bind(people, unique({}, {}), shown, unique(hidden, shown))
        self.release_fails({"b": (1,), "a": (1,), "B": (1,)}, unique({"b": (2,), "B": (1,)}, {}), "B")


class AddUniqueTest(UniqueTests, AddingCase):
    def setUp(self):
        self.use({"person": described(self.columns)}, ("add_unique", "person", "mail"))

    def use_columns(self, columns):
        self.use({"person": described(columns)}, ("add_unique", "person", columns[-1][0]))


class DropUniqueTest(UniqueTests, DroppingCase):
    def setUp(self):
        self.use({"person": described(self.columns, [], ["mail"])}, ("drop_unique", "person", "mail"))

    def use_columns(self, columns):
        name = columns[-1][0]
        self.use({"person": described(columns, [], [name])}, ("drop_unique", "person", name))

    def test_another_column_of_the_uniques(self):
        schema = {"person": described(self.columns, [], ["mail", "age"])}
        self.use(schema, ("drop_unique", "person", "mail"))
        people = {1: (5, "a"), 2: (5, "b"), 3: (6, "a")}
        shown = {1: (5, "a"), 2: (5, "b")}
        self.bind(people, unique({}, {}), shown, unique({3: (6, "a")}, shown))


class ReferenceTests:
    """The column `home` is a nullable text that leads to the table `town`, which has the keys "ulm", "" and "7"."""

    columns = [KEY, ("age", "int", False), ("home", "text", True)]

    def test_bind(self):
        good = {1: (0, "ulm"), 2: (0, None), 3: (7, ""), 4: (7, "ulm")}
        bad = {0: (0, "bonn"), 5: (0, " "), 6: (0, "1")}
        self.bind({}, {"hidden": {}}, {}, {"hidden": {}})
        self.bind(good, {"hidden": {}}, good, {"hidden": {}})
        self.bind(bad, {"hidden": {}}, {}, {"hidden": bad})
        self.bind({**good, **bad}, {"hidden": {}}, good, {"hidden": bad})

    def test_bind_to_a_table_without_rows(self):
        self.town = {}
        people = {1: (0, "ulm"), 2: (0, None)}
        self.bind(people, {"hidden": {}}, {2: (0, None)}, {"hidden": {1: (0, "ulm")}})

    def test_rows_that_are_still_hidden(self):
        people = {1: (0, "ulm"), 2: (0, None), 3: (0, "ulm"), 4: (0, "bonn")}
        hidden = {1: (0, "ulm"), 2: (0, None), 4: (0, "bonn")}
        self.bind(people, {"hidden": hidden}, {3: (0, "ulm")}, {"hidden": hidden})
        self.bind(people, {"hidden": {1: (0, "ulm")}}, {2: (0, None), 3: (0, "ulm")},
                  {"hidden": {1: (0, "ulm"), 4: (0, "bonn")}})

    def test_hidden_rows_that_have_changed(self):
        people = {1: (0, "ulm")}
        for old in ({1: (1, "ulm")}, {1: (0, "")}, {1: (0, None)}, {2: (0, "ulm")}):
            self.bind(people, {"hidden": old}, people, {"hidden": {}})
        self.bind({1: (0, "bonn")}, {"hidden": {1: (1, "bonn")}}, {}, {"hidden": {1: (0, "bonn")}})

    def test_release(self):
        bound = {1: (0, "ulm"), 2: (0, None)}
        hidden = {3: (0, "bonn"), 4: (0, "ulm"), 5: (0, None)}
        self.release({}, {"hidden": {}}, {}, {"hidden": {}})
        self.release(bound, {"hidden": {}}, bound, {"hidden": {}})
        self.release({}, {"hidden": hidden}, hidden, {"hidden": hidden})
        self.release(bound, {"hidden": hidden}, {**bound, **hidden}, {"hidden": hidden})

    def test_release_of_rows_that_lead_nowhere(self):
        self.release({1: (0, "bonn")}, {"hidden": {}}, {1: (0, "bonn")}, {"hidden": {}})

    def test_release_fails(self):
        bound = {key: (0, "ulm") for key in (8, 2, 5, 3)}
        self.release_fails(bound, {"hidden": {3: (0, "bonn")}}, 3)
        self.release_fails(bound, {"hidden": {8: (0, "bonn"), 5: (0, "ulm"), 1: (0, ""), 9: (0, "")}}, 5)
        self.release_fails({4: (0, "ulm")}, {"hidden": {4: (0, "ulm")}}, 4)

    def test_a_reference_that_is_an_integer(self):
        self.use_columns([("code", "text", False), ("boss", "int", False)], described([("nr", "int", False)]))
        self.town = {0: (), 7: ()}
        self.bind({"a": (0,), "b": (7,), "c": (1,), "": (-7,)}, {"hidden": {}}, {"a": (0,), "b": (7,)},
                  {"hidden": {"c": (1,), "": (-7,)}})
        self.release_fails({"b": (0,), "a": (0,)}, {"hidden": {"b": (1,), "a": (1,)}}, "a")


class AddReferenceTest(ReferenceTests, AddingCase):
    def setUp(self):
        self.use({"person": described(self.columns)}, ("add_reference", "person", "home", "town"))

    def use_columns(self, columns, town):
        self.use({"town": town, "person": described(columns)}, ("add_reference", "person", "boss", "town"))


class DropReferenceTest(ReferenceTests, DroppingCase):
    def setUp(self):
        person = described(self.columns, [], [], [("home", "town")])
        self.use({"person": person}, ("drop_reference", "person", "home", "town"))

    def use_columns(self, columns, town):
        person = described(columns, [], [], [("boss", "town")])
        self.use({"town": town, "person": person}, ("drop_reference", "person", "boss", "town"))


class OtherLimitsTest(AddingCase):
    def test_constraints_that_are_there_do_not_matter(self):
        """Only the constraint of the step hides rows."""
        columns = [KEY, ("age", "int", False), ("home", "text", True)]
        person = described(columns, [only("age", ">", 0)], ["age"], [("home", "town")])
        people = {1: (0, "x"), 2: (0, "ulm"), 3: (5, "x"), 4: (5, "ulm")}
        self.use({"person": person}, ("add_check", "person", only("age", "<", 5)))
        self.bind(people, {"hidden": {}}, {1: (0, "x"), 2: (0, "ulm")}, {"hidden": {3: (5, "x"), 4: (5, "ulm")}})
        self.use({"person": person}, ("add_unique", "person", "home"))
        shown = {1: (0, "x"), 2: (0, "ulm")}
        self.bind(people, unique({}, {}), shown, unique({3: (5, "x"), 4: (5, "ulm")}, shown))
        self.use({"person": person, "more": described([("nr", "int", False)])},
                 ("add_reference", "person", "age", "more"))
        left = {**self.all_of(people), "more": {5: ()}}
        right = {**self.all_of({3: (5, "x"), 4: (5, "ulm")}), "more": {5: ()}}
        self.right(left, {"hidden": {}}, right, {"hidden": {1: (0, "x"), 2: (0, "ulm")}})


if __name__ == "__main__":
    unittest.main()
