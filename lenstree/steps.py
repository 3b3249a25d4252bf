"""Evolution steps and scripts: which ones can be applied to a schema, and what they make of it."""

from lenstree.column_steps import column_step_code, column_step_target
from lenstree.errors import StepError
from lenstree.group_steps import group_step_code, group_step_target
from lenstree.kinds import COLUMN_KINDS, GROUP_KINDS, TABLE_KINDS
from lenstree.limit_steps import limit_step_code, limit_step_target
from lenstree.schema import copy_schema
from lenstree.table_steps import table_step_code, table_step_target

MOST_STEPS = 6


def step_code(schema, step):
    """Return the first code of an error of the step, or "" if it can be applied to the schema."""
    kind = step[0]
    if kind in COLUMN_KINDS:
        return column_step_code(schema, step)
    if kind in TABLE_KINDS:
        return table_step_code(schema, step)
    if kind in GROUP_KINDS:
        return group_step_code(schema, step)
    return limit_step_code(schema, step)


def changed_schema(schema, step):
    """Return the right schema of a step that can be applied to the schema."""
    kind = step[0]
    if kind in COLUMN_KINDS:
        return column_step_target(schema, step)
    if kind in TABLE_KINDS:
        return table_step_target(schema, step)
    if kind in GROUP_KINDS:
        return group_step_target(schema, step)
    return limit_step_target(schema, step)


def target_schema(schema, step):
    """Return the right schema of the step, or raise StepError."""
    code = step_code(schema, step)
    if code != "":
        raise StepError(code, 0)
    return changed_schema(schema, step)


def script_schema(schema, script):
    """Return the schema that the script makes of the schema, or raise StepError."""
    if len(script) > MOST_STEPS:
        raise StepError("long", MOST_STEPS)
    result = copy_schema(schema)
    for index, step in enumerate(script):
        code = step_code(result, step)
        if code != "":
            raise StepError(code, index)
        result = changed_schema(result, step)
    return result
