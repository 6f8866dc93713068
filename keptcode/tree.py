"""The code tree of a codebook: its free nodes, its touched nodes and its gaps."""

from keptcode.codebooks import DIGITS, ancestors, is_length
from keptcode.errors import InvalidLength


def taken_nodes(book):
    """Return the list of the codewords and the reserved strings of a codebook."""
    return list(book.words().values()) + list(book.reserved())


def inner_nodes(taken):
    """Return the list of the root and of all nodes that have taken ones below them, the deepest ones first."""
    above = {"": True}
    for node in taken:
        for prefix in ancestors(node):
            above[prefix] = True
    return sorted(above, key=len, reverse=True)


def nodes_of_level(radix, level):
    """Return the ascending list of all nodes of a level."""
    nodes = [""]
    for _ in range(level):
        nodes = [node + digit for node in nodes for digit in DIGITS[:radix]]
    return nodes


def free_beside(radix, taken, level):
    """Return the ascending list of the nodes of a level that are free if exactly these nodes are taken."""
    # Cut to the level, a taken node is in the way of the nodes that equal it or begin with it, and of no others.
    cut = {node[:level]: True for node in taken}
    return [
        node for node in nodes_of_level(radix, level)
        if node not in cut and not any([above in cut for above in ancestors(node)])
    ]


def touched_above(taken, level):
    """Return the ascending list of the nodes of a level that have one of these nodes below them."""
    return sorted({node[:level] for node in taken if len(node) > level})


def check_length(book, length):
    """Raise InvalidLength if a thing is not a length for a codebook."""
    if not is_length(book.depth, length):
        raise InvalidLength("the length is not an integer from 1 to the depth")


def free_nodes(book, length):
    """Return the ascending list of the free nodes of a level."""
    check_length(book, length)
    return free_beside(book.radix, taken_nodes(book), length)


def touched(book, length):
    """Return the ascending list of the nodes of a level that have a codeword or a reserved string below them."""
    check_length(book, length)
    return touched_above(taken_nodes(book), length)


def room(book):
    """Return the tuple of the numbers of free nodes for the levels from 1 to the depth."""
    return tuple([len(free_nodes(book, level)) for level in range(1, book.depth + 1)])


def gaps(book):
    """Return the ascending list of the free nodes whose parent is not free."""
    found = []
    # The root never counts as free here: where nothing is taken, the gaps are the nodes of level 1.
    free_above = {}
    for level in range(1, book.depth + 1):
        free = free_nodes(book, level)
        found.extend([node for node in free if node[:-1] not in free_above])
        free_above = {node: True for node in free}
    return sorted(found)
