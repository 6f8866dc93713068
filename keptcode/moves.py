"""Move names from one codebook to another one at a time."""

from keptcode.codebooks import ancestors
from keptcode.errors import InvalidPair


def check_same_frame(old, new):
    """Raise InvalidPair if two codebooks differ in more than their names and codewords."""
    if old.radix != new.radix or old.depth != new.depth or old.reserved() != new.reserved():
        raise InvalidPair("the radix, the depth or the reserved strings differ")


def changed_names(old_words, new_words):
    """Return the ascending list of the names whose codeword is not the same, or is there only once."""
    names = sorted(set(list(old_words) + list(new_words)))
    return [name for name in names if old_words.get(name) != new_words.get(name)]


def owners_along(words, names):
    """Return the dict from the codewords of some names, and their prefixes, to the lists of the owners below."""
    owners = {}
    for name in names:
        if name in words:
            for node in ancestors(words[name]) + [words[name]]:
                owners.setdefault(node, []).append(name)
    return owners


def earlier_names(old_words, new_words, names):
    """Return the dict from each changed name to the list of those that must move before it."""
    owners = owners_along(old_words, names)
    by_word = {old_words[name]: name for name in names if name in old_words}
    earlier = {}
    for name in names:
        in_the_way = []
        if name in new_words:
            word = new_words[name]
            above = [by_word[node] for node in ancestors(word) if node in by_word]
            in_the_way = above + owners.get(word, [])
        earlier[name] = [other for other in in_the_way if other != name]
    return earlier


def later_names(earlier):
    """Return the dict from each changed name to the list of those that it must move before."""
    later = {name: [] for name in earlier}
    for name, others in earlier.items():
        for other in others:
            later[other].append(name)
    return later


def movable_names(earlier):
    """Return the list of the names that can be moved, each behind all those that must move before it."""
    later = later_names(earlier)
    missing = {name: len(earlier[name]) for name in earlier}
    order = []
    ready = [name for name in earlier if missing[name] == 0]
    while ready:
        moved = ready.pop()
        order.append(moved)
        for name in later[moved]:
            missing[name] -= 1
            if missing[name] == 0:
                ready.append(name)
    return order


def waiting_cycle(earlier, stuck):
    """Return a cycle of names, each of which must move before the next one.

    Each of the stuck names, which are the keys of a dict, must wait for another one of them.
    """
    path = []
    places = {}
    name = sorted(stuck)[0]
    while name not in places:
        places[name] = len(path)
        path.append(name)
        name = [other for other in earlier[name] if other in stuck][0]
    # The path goes backwards, from each name to one that must move before it.
    cycle = path[places[name]:]
    return cycle[::-1]


def order_and_cycle(old, new):
    """Return the pair of an order of all changed names and a cycle of names; one of them is None."""
    check_same_frame(old, new)
    old_words = old.words()
    new_words = new.words()
    names = changed_names(old_words, new_words)
    earlier = earlier_names(old_words, new_words, names)
    order = movable_names(earlier)
    if len(order) == len(names):
        return order, None
    moved = {name: True for name in order}
    return None, waiting_cycle(earlier, {name: True for name in names if name not in moved})


def move_order(old, new):
    """Return the list of all changed names in an order in which they can be moved, or None if there is none."""
    order, _ = order_and_cycle(old, new)
    return order


def move_cycle(old, new):
    """Return a list of names, each of which must move before the next one in a circle, or None if there is none."""
    _, cycle = order_and_cycle(old, new)
    return cycle
