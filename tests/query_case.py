"""What the tests of queries share: a schema, short ways to write queries, and all causes of QueryError."""

from tests.support import described, only

KEY = ("id", "int", False)
NAME = ("name", "text", True)
AGE = ("age", "int", False)
TAG = ("tag", "text", False)
OWNER = ("owner", "int", True)
SCHEMA = {
    "person": described([KEY, NAME, AGE]),
    "pet": described([TAG, OWNER]),
    "bare": described([("only", "int", False)]),
}
PERSON = ("table", "person")
PET = ("table", "pet")
BARE = ("table", "bare")
# Inner queries that fail, each with its own code.
NO_TABLE = ("table", "nowhere")
NO_CONDITION = ("where", PERSON, only("nowhere", "=", 1))
NO_COLUMN = ("select", PERSON, ())
NO_KIND = ("append", PERSON, PET)
NO_NAME = ("rename", PERSON, "age", "Age")
NO_TAKEN = ("rename", PERSON, "age", "id")
FAILING = (("table", NO_TABLE), ("condition", NO_CONDITION), ("column", NO_COLUMN), ("kind", NO_KIND),
           ("name", NO_NAME), ("taken", NO_TAKEN))
BAD_NAMES = ("", "A", "1a", "_a", "a b", "a" * 21, "a.b")

# Pairs of a code and a query that fails with it.
CAUSES = [
    ("table", ("table", "nowhere")),
    ("table", ("table", "")),
    ("condition", ("where", PERSON, only("nowhere", "=", 1))),
    ("condition", ("where", PERSON, only("tag", "null", None))),
    ("condition", ("where", PERSON, only("name", "=", 1))),
    ("condition", ("where", PERSON, only("age", "=", "1"))),
    ("condition", ("where", PERSON, (((("id", "=", 1)), ("age", "<", "x")),))),
    ("condition", ("where", PERSON, ((), (("id", "=", 1),), (("nowhere", "given", None),)))),
    ("condition", ("where", ("select", PERSON, ("id",)), only("age", "=", 1))),
    ("condition", ("where", ("rename", PERSON, "age", "years"), only("age", "=", 1))),
    ("column", ("select", PERSON, ())),
    ("column", ("select", PERSON, ("id", "id"))),
    ("column", ("select", PERSON, ("id", "age", "nowhere"))),
    ("column", ("select", PERSON, ("tag",))),
    ("column", ("select", PERSON, ("age", "name", "age"))),
    ("column", ("rename", PERSON, "nowhere", "x")),
    ("name", ("rename", PERSON, "age", "X")),
    ("taken", ("rename", PERSON, "age", "id")),
    ("taken", ("rename", PERSON, "age", "age")),
    ("column", ("join", PERSON, PET, "owner", "owner")),
    ("column", ("join", PERSON, PET, "id", "id")),
    ("column", ("join", PERSON, PET, "nowhere", "nowhere")),
    ("kind", ("join", PERSON, PET, "id", "tag")),
    ("kind", ("join", PERSON, PET, "name", "owner")),
    ("taken", ("join", PERSON, PERSON, "id", "id")),
    ("taken", ("join", PERSON, ("rename", PET, "tag", "name"), "id", "owner")),
    ("taken", ("join", PET, ("select", PET, ("tag",)), "tag", "tag")),
    ("kind", ("append", PERSON, PET)),
    ("kind", ("append", PERSON, ("select", PERSON, ("id", "name")))),
    ("kind", ("append", ("select", PERSON, ("id", "name")), PET)),
    ("kind", ("append", ("select", PERSON, ("id", "age")), ("select", PERSON, ("id", "name")))),
    ("kind", ("minus", PERSON, PET)),
    ("kind", ("minus", ("select", PERSON, ("id",)), PERSON)),
    ("kind", ("minus", BARE, ("select", PET, ("tag",)))),
    ("column", ("order", PERSON, ())),
    ("column", ("order", PERSON, (("nowhere", True),))),
    ("column", ("order", PERSON, (("id", True), ("tag", False)))),
    ("column", ("group", PERSON, ("age", "age"), ())),
    ("column", ("group", PERSON, ("nowhere",), ())),
    ("column", ("group", PERSON, ("id", "tag"), (("count", "id", "many"),))),
    ("column", ("group", PERSON, ("age",), (("count", "nowhere", "many"),))),
    ("column", ("group", PERSON, (), (("least", "id", "one"), ("sum", "owner", "two")))),
    ("column", ("group", PERSON, (), ())),
    ("kind", ("group", PERSON, (), (("sum", "name", "total"),))),
    ("kind", ("group", PERSON, ("age",), (("count", "name", "many"), ("sum", "name", "total")))),
    ("name", ("group", PERSON, ("age",), (("sum", "id", "Total"),))),
    ("name", ("group", PERSON, (), (("least", "id", "one"), ("count", "name", "")))),
    ("taken", ("group", PERSON, ("age",), (("sum", "id", "age"),))),
    ("taken", ("group", PERSON, (), (("sum", "id", "a"), ("count", "id", "a")))),
    ("taken", ("group", PERSON, ("age", "id"), (("sum", "id", "a"), ("count", "id", "id")))),
    # Two causes at once.
    ("column", ("rename", PERSON, "nowhere", "X")),
    ("column", ("rename", PERSON, "nowhere", "id")),
    ("name", ("rename", ("rename", PERSON, "age", "years"), "years", "")),
    ("column", ("join", PERSON, PERSON, "nowhere", "id")),
    ("column", ("join", PERSON, PET, "id", "nowhere")),
    ("kind", ("join", PERSON, PERSON, "id", "name")),
    ("column", ("group", PERSON, ("age", "age"), (("sum", "name", "X"),))),
    ("column", ("group", PERSON, ("age",), (("sum", "name", "X"), ("sum", "nowhere", "age")))),
    ("kind", ("group", PERSON, ("age",), (("count", "id", "X"), ("sum", "name", "age")))),
    ("kind", ("group", PERSON, ("age",), (("count", "id", "age"), ("sum", "name", "b")))),
    ("name", ("group", PERSON, ("age",), (("count", "id", "age"), ("sum", "id", "X")))),
    ("name", ("group", PERSON, ("age",), (("count", "id", "X"), ("sum", "id", "X")))),
]


def around(query):
    """Return queries of each form with an inner query of one or two that is this one; they fail by themselves, too."""
    return [
        ("where", query, only("nowhere", "=", 1)),
        ("select", query, ()),
        ("rename", query, "nowhere", "X"),
        ("join", query, PERSON, "nowhere", "id"),
        ("join", PERSON, query, "nowhere", "id"),
        ("append", query, BARE),
        ("append", BARE, query),
        ("minus", query, BARE),
        ("minus", BARE, query),
        ("distinct", query),
        ("order", query, ()),
        ("limit", query, 0),
        ("group", query, (), ()),
    ]
