"""Rules of the document, one by one: certificates, exchanges, confusion tables and moves."""

from itertools import permutations, product

from tests.by_words import (
    conflict, covers, fixed_nodes, here, nodes_of, option_nodes, others, priced,
)


def is_count(thing):
    return type(thing) is int and thing >= 0


def has_form(book, request, thing):
    """Whether a thing has the form of a certificate."""
    if type(thing) is not dict or set(thing) != option_nodes(book, request):
        return False
    for node, found in thing.items():
        if type(found) is not list:
            return False
        for one in found:
            if type(one) is not tuple or len(one) != 3 or type(one[0]) is not bool or type(one[1]) is not tuple:
                return False
            if len(one[1]) != book.depth - len(node) or not all(map(is_count, [*one[1], one[2]])):
                return False
    return True


def leaf_rule(book, request, prices, thing):
    mine = priced(book, request, prices)
    wanted = [(end, True, 0) for end in [*mine.values(), *fixed_nodes(book, request, prices)]]
    wanted += [(word, False, prices[name]) for name, word in mine.items()]
    return all(
        any(covers(one, (present, (0,) * (book.depth - len(end)), price)) for one in thing[end])
        for end, present, price in wanted
    )


def combination(levels, chosen):
    present = any(one[0] for one in chosen)
    counts = [sum(one[1][at] for one in chosen) for at in range(levels)]
    return present, (int(present), *counts), sum(one[2] for one in chosen)


def inner_rule(book, request, prices, thing):
    leaves = [*others(book, request).values(), *book.reserved()]
    for node in thing:
        if node not in leaves:
            below = [thing[child] for child in nodes_of(book.radix, len(node) + 1) if child in thing and here(child, node)]
            for chosen in product(*below):
                whole = combination(book.depth - len(node) - 1, chosen)
                if not any(covers(one, whole) for one in thing[node]):
                    return False
    return True


def root_rule(book, request, thing, bar):
    sizes = [len(end) for end in [*others(book, request).values(), *book.reserved()]] + list(request.values())
    for _, counts, price in thing[""]:
        fitting = all(
            [*counts, 0][level] + sum(book.radix ** (level - size) for size in sizes if size <= level)
            <= book.radix ** level
            for level in range(1, book.depth + 1)
        )
        if fitting and (bar is None or price < bar):
            return False
    return True


def establishes(book, request, prices, thing, bar):
    """Whether a thing is a certificate that establishes a bar."""
    return (
        has_form(book, request, thing) and leaf_rule(book, request, prices, thing)
        and inner_rule(book, request, prices, thing) and root_rule(book, request, thing, bar)
    )


def exchanged(exchange, node):
    """The string to which an exchange maps another one."""
    result = ""
    for at, digit in enumerate(node):
        order = exchange.get(node[:at])
        result += order[int(digit)] if order is not None else digit
    return result


def exchanges(radix, depth):
    """All exchanges for a radix and a depth that have all keys."""
    keys = [node for level in range(depth) for node in nodes_of(radix, level)]
    orders = ["".join(order) for order in permutations("0123"[:radix])]
    return [dict(zip(keys, chosen)) for chosen in product(orders, repeat=len(keys))]


def readings(book, length):
    """The dict from all strings up to a length that can be decoded to their lists of names."""
    words = book.words()
    found = {"": []}
    layer = {"": []}
    while layer:
        layer = {
            digits + word: [*names, name] for digits, names in layer.items() for name, word in words.items()
            if len(digits + word) <= length
        }
        found.update(layer)
    return found


def confusing_strings(first, second, length):
    """All strings up to a length that confuse two codebooks."""
    one, other = readings(first, length), readings(second, length)
    return [digits for digits in one if digits in other and one[digits] != other[digits]]


def steps(first, second, state):
    """The steps from a state: tuples (index, name, state behind it)."""
    if state == "0":
        return [(0, name, "0" + word) for name, word in first.words().items()]
    ahead, digits = int(state[0]), state[1:]
    taking = 1 - ahead
    found = []
    for name, word in (first, second)[taking].words().items():
        if word == digits:
            found.append((taking, name, "0"))
        elif digits.startswith(word):
            found.append((taking, name, str(ahead) + digits[len(word):]))
        elif word.startswith(digits):
            found.append((taking, name, str(taking) + word[len(digits):]))
    return found


def difference_behind(difference, index, name):
    """The resulting difference, or None for a mismatch."""
    sides = [[*difference[0]], [*difference[1]]]
    sides[index].append(name)
    if sides[0] and sides[1]:
        if sides[0][0] != sides[1][0]:
            return None
        del sides[0][0], sides[1][0]
    return tuple(sides[0]), tuple(sides[1])


def is_state(radix, thing):
    if type(thing) is not str or not thing or thing[0] not in "01":
        return False
    return thing == "0" or (len(thing) > 1 and set(thing[1:]) <= set("0123"[:radix]))


def is_name(thing):
    return type(thing) is str and 1 <= len(thing) <= 8 and set(thing) <= set("abcdefghijklmnopqrstuvwxyz")


def is_difference(thing):
    if type(thing) is not tuple or len(thing) != 2 or any(type(side) is not tuple for side in thing):
        return False
    return () in thing and all(is_name(name) for side in thing for name in side)


def is_table(first, second, thing):
    """Whether a thing is a confusion table."""
    if type(thing) is not dict or not all(is_state(first.radix, state) for state in thing):
        return False
    if not all(value is None or is_difference(value) for value in thing.values()):
        return False
    if thing.get("0") != ((), ()):
        return False
    for state, value in thing.items():
        for index, name, target in steps(first, second, state):
            if target not in thing:
                return False
            if value is None:
                if thing[target] is not None:
                    return False
            elif thing[target] is not None:
                if thing[target] != difference_behind(value, index, name):
                    return False
    return True


def reachable(first, second, start="0"):
    """The states that can be reached from a state."""
    found, waiting = {start}, [start]
    while waiting:
        for _, _, target in steps(first, second, waiting.pop()):
            if target not in found:
                found.add(target)
                waiting.append(target)
    return found


def changed(old, new):
    """The changed names."""
    one, other = old.words(), new.words()
    return sorted(name for name in {*one, *other} if one.get(name) != other.get(name))


def must_move_before(old, new, first, second):
    one, other = old.words().get(first), new.words().get(second)
    return first != second and one is not None and other is not None and conflict(one, other)


def is_order(old, new, names):
    """Whether all changed names can be moved in this order."""
    if sorted(names) != changed(old, new):
        return False
    words = old.words()
    for name in names:
        words.pop(name, None)
        ends = [*words.values(), *old.reserved()]
        if name in new.words():
            word = new.codeword(name)
            if any(conflict(word, end) for end in ends):
                return False
            words[name] = word
    return words == new.words()


def is_cycle(old, new, names):
    """Whether each name must move before the next one, and the last one before the first one."""
    if type(names) is not list or len(names) < 2 or len(set(names)) < len(names):
        return False
    if not set(names) <= set(changed(old, new)):
        return False
    return all(must_move_before(old, new, names[at - 1], names[at]) for at in range(len(names)))
