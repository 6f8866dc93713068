"""The options at the nodes of a code tree, and the cheapest plans."""

from keptcode.capacity import failing_level, level_size, loads
from keptcode.choices import combined, nothing_below, options_of, uncovered, with_own_level
from keptcode.codebooks import DIGITS
from keptcode.errors import NoPlan, TooLarge
from keptcode.plans import apply_plan, make_plan
from keptcode.request import check_prices, check_request, priced_words, unrequested_words
from keptcode.tree import inner_nodes

MOST_PRICED_NAMES = 12


def check_task(book, request, prices):
    """Raise an error if the arguments are not a request and prices, or if too many names are priced."""
    check_request(book, request)
    check_prices(prices)
    if len(priced_words(book, request, prices)) > MOST_PRICED_NAMES:
        raise TooLarge("more than twelve names are priced")


def leaf_choices(book, request, prices):
    """Return the dict from the codewords that are not requested and the reserved strings to the choices there."""
    leaves = {}
    for node in book.reserved():
        leaves[node] = {(True, (0,) * (book.depth - len(node))): (0, ())}
    for name, node in unrequested_words(book, request).items():
        no_counts = (0,) * (book.depth - len(node))
        leaves[node] = {(True, no_counts): (0, ())}
        if name in prices:
            leaves[node][(False, no_counts)] = (prices[name], (name,))
    return leaves


def children(radix, table, node):
    """Return the list of the children of a node that are keys of a dict."""
    return [node + digit for digit in DIGITS[:radix] if node + digit in table]


def choice_table(book, request, prices):
    """Return the dict from the nodes that are not free to their choices, without covered options."""
    leaves = leaf_choices(book, request, prices)
    table = dict(leaves)
    for node in inner_nodes(leaves):
        choices = nothing_below(book.depth - len(node) - 1)
        for child in children(book.radix, table, node):
            choices = uncovered(combined(choices, table[child]))
        table[node] = with_own_level(choices)
    return table


def options(book, request, prices):
    """Return the dict from nodes to the ascending lists of their options that no other one covers."""
    check_task(book, request, prices)
    table = choice_table(book, request, prices)
    return {node: options_of(table[node]) for node in sorted(table)}


def spare_nodes(book, request):
    """Return the list of the numbers of nodes, for the levels from 1 to the depth, that may be touched."""
    return [
        level_size(book.radix, level) - filled
        for level, (_, filled) in enumerate(loads(book, request, ()), start=1)
    ]


def fits(counts, spare):
    """Tell whether no level fails, given the counts of an option of the root."""
    # The root itself cannot fail, and no node of the last level has a node below it.
    return all([count <= most for count, most in zip(counts[1:] + (0,), spare)])


def cheapest(book, request, prices):
    """Return the least price of a plan and a plan of this price, or None if there is no plan."""
    check_task(book, request, prices)
    spare = spare_nodes(book, request)
    root = choice_table(book, request, prices)[""]
    fitting = [choice for (_, counts), choice in root.items() if fits(counts, spare)]
    if not fitting:
        return None
    price, recoded = min(fitting)
    return price, make_plan(book, request, prices, recoded)


def fulfil(book, request, prices):
    """Return the price of a cheapest plan and the codebook that it leads to."""
    found = cheapest(book, request, prices)
    if found is None:
        firm = [name for name in unrequested_words(book, request) if name not in prices]
        raise NoPlan(failing_level(book, request, firm))
    price, plan = found
    return price, apply_plan(book, request, prices, plan)
