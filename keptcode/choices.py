"""Choices of kept names below the nodes of a code tree, and when one option covers another.

The choices at a node are a dict from (present, counts) to (price, recoded): the first and the last parts of an
option, and the names that are recoded for it. Of several choices that differ in price alone, one is listed.
"""


def covers(option, other):
    """Tell whether an option covers another one."""
    present, counts, price = option
    other_present, other_counts, other_price = other
    if present > other_present or price > other_price:
        return False
    for count, other_count in zip(counts, other_counts):
        if count > other_count:
            return False
    return True


def is_covered(option, others):
    """Tell whether some option of a list covers an option."""
    for other in others:
        if covers(other, option):
            return True
    return False


def options_of(choices):
    """Return the ascending list of the options of the choices at a node."""
    return sorted([(present, counts, price) for (present, counts), (price, _) in choices.items()])


def uncovered(choices):
    """Return the choices whose options are covered by no other one of these options."""
    found = []
    for option in options_of(choices):
        # An option that covers another one is less than it, so it is among those found before.
        if not is_covered(option, found):
            found.append(option)
    return {(present, counts): choices[(present, counts)] for present, counts, _ in found}


def combined(choices, others):
    """Return the cheapest choices for two sets of nodes together, none of which is below another one."""
    found = {}
    for (present, counts), (price, recoded) in choices.items():
        for (other_present, other_counts), (other_price, other_recoded) in others.items():
            sums = tuple([count + other_count for count, other_count in zip(counts, other_counts)])
            key = (present or other_present, sums)
            choice = (price + other_price, recoded + other_recoded)
            if key not in found or choice < found[key]:
                found[key] = choice
    return found


def nothing_below(levels):
    """Return the choices for no nodes at all, with a count for each of some levels."""
    return {(False, (0,) * levels): (0, ())}


def with_own_level(choices):
    """Return the choices at a node, given the choices for all its children together."""
    return {(present, (int(present), *counts)): choices[(present, counts)] for present, counts in choices}
