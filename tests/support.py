"""What several tests use: short ways to write schemas, and to see that arguments stay as they were."""

import copy


def described(columns, checks=(), uniques=(), references=()):
    """Return a table description."""
    return {
        "columns": list(columns),
        "checks": list(checks),
        "uniques": list(uniques),
        "references": list(references),
    }


def only(column, operator, operand):
    """Return the condition that has one clause."""
    return (((column, operator, operand),),)


def containers(thing):
    """Return the identities of all lists and dicts within a thing, the thing included."""
    found = set()
    if isinstance(thing, (list, dict)):
        found.add(id(thing))
    if isinstance(thing, dict):
        for item in thing.values():
            found |= containers(item)
    elif isinstance(thing, (list, tuple)):
        for item in thing:
            found |= containers(item)
    return found


def called(test, function, *arguments):
    """Call a function; see that its arguments stay as they were and that the result shares nothing with them."""
    before = copy.deepcopy(arguments)
    result = function(*arguments)
    test.assertEqual(arguments, before)
    test.assertEqual(containers(result) & containers(arguments), set())
    return result


def raised(test, error, function, *arguments):
    """Call a function that must raise the error; see that its arguments stay as they were. Return the error."""
    before = copy.deepcopy(arguments)
    with test.assertRaises(error) as caught:
        function(*arguments)
    test.assertEqual(arguments, before)
    test.assertIs(type(caught.exception), error)
    return caught.exception


def wreck(thing):
    """Empty all lists and dicts within a thing, the innermost ones first."""
    if isinstance(thing, dict):
        for item in thing.values():
            wreck(item)
        thing.clear()
    elif isinstance(thing, (list, tuple)):
        for item in thing:
            wreck(item)
        if isinstance(thing, list):
            thing.clear()
