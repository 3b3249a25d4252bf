"""The lenses of scripts: put right and put left through several steps."""

from lenstree.errors import LensError
from lenstree.lens import empty_complement, put_left, put_right
from lenstree.states import copy_state, first_fault
from lenstree.steps import target_schema


def empty_complements(script):
    """Return the list of the empty complements of the steps."""
    return [empty_complement(step) for step in script]


def schemas_along(schema, script):
    """Return the list of the schemas ahead of the script and behind each of its steps."""
    found = [schema]
    for step in script:
        found.append(target_schema(found[-1], step))
    return found


def refuse_faults(schema, state):
    """Raise LensError with the first fault of the state if it is not sound."""
    fault = first_fault(schema, state)
    if fault is not None:
        code, table, key = fault
        raise LensError(code, table, key)


def script_right(schema, script, left, complements):
    """Put right of a script: return the last state and the list of the new complements, or raise LensError."""
    schemas = schemas_along(schema, script)
    state = copy_state(left)
    found = []
    for place, step in enumerate(script):
        if place > 0:
            refuse_faults(schemas[place], state)
        state, complement = put_right(schemas[place], step, state, complements[place])
        found.append(complement)
    return state, found


def script_left(schema, script, right, complements):
    """Put left of a script: return the last state and the list of the new complements, or raise LensError."""
    schemas = schemas_along(schema, script)
    state = copy_state(right)
    found = []
    for place in reversed(range(len(script))):
        if place < len(script) - 1:
            refuse_faults(schemas[place + 1], state)
        state, complement = put_left(schemas[place], script[place], state, complements[place])
        found.append(complement)
    return state, list(reversed(found))
