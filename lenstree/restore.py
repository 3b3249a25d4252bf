"""Making a store from its image."""

from lenstree.stored import Stored
from lenstree.tree import Tree


def stored_from(image):
    """Return a store whose image equals this one."""
    outline, home, kept, listed, move = image
    upcoming, lines, schema = outline
    tree = Tree(schema)
    tree.take_outline(upcoming, lines, schema)
    complements = {node: edge for node, edge in listed}
    store = Stored(schema)
    store.take_parts(tree, home, kept, complements, move)
    return store
