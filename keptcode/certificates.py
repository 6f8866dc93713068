"""Certificates: tables that show that no plan is cheaper than a bar, or that there is no plan."""

from keptcode.cheapest import check_task, children, fits, leaf_choices, spare_nodes
from keptcode.choices import combined, is_covered, nothing_below, options_of, with_own_level
from keptcode.codebooks import is_whole
from keptcode.tree import inner_nodes


def is_amount(thing):
    """Tell whether a thing is an integer from 0."""
    return is_whole(thing) and thing >= 0


def has_option_form(levels, thing):
    """Tell whether a thing has the form of an option with a count for each of some levels."""
    if not isinstance(thing, tuple) or len(thing) != 3:
        return False
    present, counts, price = thing
    if not isinstance(present, bool) or not isinstance(counts, tuple) or len(counts) != levels:
        return False
    return all([is_amount(amount) for amount in (*counts, price)])


def has_list_form(levels, thing):
    """Tell whether a thing is a list of tuples that have the form of options."""
    return isinstance(thing, list) and all([has_option_form(levels, element) for element in thing])


def has_certificate_form(depth, nodes, thing):
    """Tell whether a thing is a dict with exactly these nodes as its keys, and with lists of the right form."""
    if not isinstance(thing, dict) or len(thing) != len(nodes):
        return False
    return all([node in thing and has_list_form(depth - len(node), thing[node]) for node in nodes])


def listed_choices(listed):
    """Return the options in a list of a certificate as choices without names."""
    found = {}
    for present, counts, price in listed:
        key = (present, counts)
        if key not in found or price < found[key][0]:
            found[key] = (price, ())
    return found


def covers_all(listed, choices):
    """Tell whether each option of some choices is covered by one in a list."""
    # The options of an honest certificate are mostly listed themselves, which takes no search.
    known = {element: True for element in listed}
    return all([option in known or is_covered(option, listed) for option in options_of(choices)])


def keeps_inner_rule(book, certificate, node):
    """Tell whether the list of an inner node covers all combinations of the options in its children's lists."""
    choices = nothing_below(book.depth - len(node) - 1)
    for child in children(book.radix, certificate, node):
        choices = combined(choices, listed_choices(certificate[child]))
    return covers_all(certificate[node], with_own_level(choices))


def keeps_root_rule(spare, listed, bar):
    """Tell whether each option in the root's list with which no level fails has at least the price of the bar."""
    fitting = [price for _, counts, price in listed if fits(counts, spare)]
    if bar is None:
        return not fitting
    return all([price >= bar for price in fitting])


def check_certificate(book, request, prices, thing, bar):
    """Tell whether a thing is a certificate that establishes a bar, which is an integer or None."""
    check_task(book, request, prices)
    leaves = leaf_choices(book, request, prices)
    inner = inner_nodes(leaves)
    if bar is not None and not is_whole(bar):
        return False
    if not has_certificate_form(book.depth, list(leaves) + inner, thing):
        return False
    if not all([covers_all(thing[leaf], choices) for leaf, choices in leaves.items()]):
        return False
    if not all([keeps_inner_rule(book, thing, node) for node in inner]):
        return False
    return keeps_root_rule(spare_nodes(book, request), thing[""], bar)
