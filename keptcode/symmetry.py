"""Exchanges of digits below the nodes of a code tree, and codebooks that an exchange turns into each other."""

from keptcode.codebooks import DIGITS, Codebook, ancestors, is_codeword
from keptcode.errors import InvalidExchange
from keptcode.tree import inner_nodes, taken_nodes

RESERVED_FORM = "-"
FREE_FORM = "."


def is_digit_order(radix, thing):
    """Tell whether a thing is a string that contains each digit below a radix exactly once and nothing else."""
    return isinstance(thing, str) and sorted(thing) == list(DIGITS[:radix])


def is_exchange(book, thing):
    """Tell whether a thing is an exchange for a codebook."""
    if not isinstance(thing, dict):
        return False
    return all([
        (prefix == "" or is_codeword(book.radix, book.depth - 1, prefix)) and is_digit_order(book.radix, order)
        for prefix, order in thing.items()
    ])


def exchanged(exchange, node):
    """Return the string of digits to which an exchange maps another one."""
    return "".join([
        exchange[prefix][int(digit)] if prefix in exchange else digit
        for prefix, digit in zip(ancestors(node), node)
    ])


def relabel(book, exchange):
    """Return the codebook in which an exchange maps all codewords and reserved strings."""
    if not is_exchange(book, exchange):
        raise InvalidExchange("this is not an exchange for the codebook")
    words = {name: exchanged(exchange, word) for name, word in book.words().items()}
    return Codebook(book.radix, book.depth, words, [exchanged(exchange, node) for node in book.reserved()])


def child_forms(radix, forms, node):
    """Return the ascending list of the pairs (form, digit) of the children of a node."""
    return sorted([(forms.get(node + digit, FREE_FORM), digit) for digit in DIGITS[:radix]])


def tree_forms(book):
    """Return the dict from the root and the nodes that are not free to their forms.

    Two nodes of one level have the same form exactly if an exchange turns what the first one holds into what the
    second one holds: the same name, a reserved string each, or children that have the same forms in some order.
    """
    forms = {word: name for name, word in book.words().items()}
    for node in book.reserved():
        forms[node] = RESERVED_FORM
    for node in inner_nodes(taken_nodes(book)):
        held = " ".join([form for form, _ in child_forms(book.radix, forms, node)])
        forms[node] = f"({held})"
    return forms


def digit_order(children, other_children):
    """Return the string that sends the digit of each child to the digit of the child of the same form."""
    images = dict(zip([digit for _, digit in children], [image for _, image in other_children]))
    return "".join([images[digit] for digit in sorted(images)])


def alike(book, other):
    """Return an exchange that relabels a codebook into another one, or None if there is none."""
    if book.radix != other.radix or book.depth != other.depth:
        return None
    forms = tree_forms(book)
    other_forms = tree_forms(other)
    if forms[""] != other_forms[""]:
        return None
    exchange = {}
    # An exchange looks at the digits ahead of a node, so these come first.
    for node in sorted(inner_nodes(taken_nodes(book)), key=len):
        image = exchanged(exchange, node)
        children = child_forms(book.radix, forms, node)
        exchange[node] = digit_order(children, child_forms(book.radix, other_forms, image))
    return exchange
