"""Carrying states over the edges of a tree of versions.

The complements of all edges are a dict from the lower node of each edge to the list of its complements.
"""

from lenstree.errors import LensError, RejectedError, VersionError
from lenstree.forms import fits_step
from lenstree.scripts import schemas_along, script_left, script_right
from lenstree.states import first_fault
from lenstree.tree import NOWHERE


def copy_complements(complements):
    """Return an equal list of complements that shares no dict with it."""
    return [{entry: dict(complement[entry]) for entry in complement} for complement in complements]


def edges_of(tree, complements):
    """Return the complements of those edges that the tree has."""
    return {node: complements[node] for node in tree.nodes() if tree.parent(node) != NOWHERE}


def lower_node(tree, near, far):
    """Return that one of two neighbours which is the child of the other one."""
    if tree.parent(far) == near:
        return far
    return near


def carry(tree, complements, near, far, state):
    """Carry the state of the near node to the far one: return its state and the new complements of the edge."""
    lower = lower_node(tree, near, far)
    script = tree.script(lower)
    if lower == far:
        return script_right(tree.schema(near), script, state, complements[lower])
    return script_left(tree.schema(far), script, state, complements[lower])


def state_along(tree, complements, path, state):
    """Carry the state of the first node of the path to the last one; what that does to the complements is dropped."""
    for near, far in zip(path, path[1:]):
        state, _ = carry(tree, complements, near, far, state)
    return state


def refuse_faults(tree, version, state):
    """Raise RejectedError with the first fault of the state of the version if it is not sound."""
    fault = first_fault(tree.schema(version), state)
    if fault is not None:
        code, table, key = fault
        raise RejectedError(version, code, table, key)


def carry_soundly(tree, complements, near, far, state):
    """Carry the state as `carry` does, or raise RejectedError for the far node."""
    try:
        new_state, new_complements = carry(tree, complements, near, far, state)
    except LensError as error:
        raise RejectedError(far, error.code, error.table, error.key)
    refuse_faults(tree, far, new_state)
    return new_state, new_complements


def carry_pairs(tree, complements, pairs, states):
    """Carry states along the pairs of nodes, in order: return all states and all complements, or raise RejectedError.

    The dict `states` has the state of the first near node.
    """
    new_states = dict(states)
    new_complements = dict(complements)
    for near, far in pairs:
        lower = lower_node(tree, near, far)
        new_states[far], new_complements[lower] = carry_soundly(tree, complements, near, far, new_states[near])
    return new_states, new_complements


def spread(tree, complements, version, state):
    """Carry the new state of the version to all other nodes, or raise RejectedError for the first one that rejects it.

    Return the states of all nodes and the complements of all edges.
    """
    refuse_faults(tree, version, state)
    return carry_pairs(tree, complements, tree.walk(version), {version: state})


def refuse_misfits(tree, complements, node):
    """Raise VersionError if a complement of the edge above the node does not fit its step."""
    script = tree.script(node)
    schemas = schemas_along(tree.schema(tree.parent(node)), script)
    for step, schema, complement in zip(script, schemas, complements[node]):
        if not fits_step(schema, step, complement):
            raise VersionError("complement")


def hang(tree, complements, version, state):
    """Carry the state of the new parent of the version to it and to all nodes below it.

    Return their states and the complements of all edges. Raise VersionError or RejectedError.
    """
    parent = tree.parent(version)
    states = {parent: state}
    edges = complements
    for near, far in [(parent, version)] + tree.walk_below(version):
        refuse_misfits(tree, complements, far)
        states, edges = carry_pairs(tree, edges, [(near, far)], states)
    return states, edges
