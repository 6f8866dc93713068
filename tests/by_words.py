"""The definitions of the document, word by word: by counts over all nodes and by search over all assignments."""

from itertools import combinations, product

from keptcode.codebooks import Codebook
from tests.things import are_prefix_free, prefix_free_sets

NAMES = ("c", "a", "d", "b", "f", "e", "h", "g")


def nodes_of(radix, level):
    return ["".join(digits) for digits in product("0123"[:radix], repeat=level)]


def all_nodes(radix, depth):
    return [node for level in range(1, depth + 1) for node in nodes_of(radix, level)]


def conflict(first, second):
    return first.startswith(second) or second.startswith(first)


def below(node, other):
    """Whether a node is below another one."""
    return node != other and node.startswith(other)


def taken(book):
    return [*book.words().values(), *book.reserved()]


def is_free(book, node):
    return not any(conflict(node, other) for other in taken(book))


def free(book, level):
    return [node for node in nodes_of(book.radix, level) if is_free(book, node)]


def touched(book, level):
    return [node for node in nodes_of(book.radix, level) if any(below(other, node) for other in taken(book))]


def gaps(book):
    if not taken(book):
        return nodes_of(book.radix, 1)
    return sorted(
        node for node in all_nodes(book.radix, book.depth) if is_free(book, node) and not is_free(book, node[:-1])
    )


def others(book, request):
    """The names of the codebook that are not requested, with their codewords."""
    return {name: word for name, word in book.words().items() if name not in request}


def loads(book, request, kept):
    """T(k) and B(k): nodes are counted one by one, a requested length as if it were a node 0...0 of its own."""
    words = others(book, request)
    staying = [words[name] for name in kept] + list(book.reserved())
    sizes = [*words.values(), *("0" * length for length in request.values()), *book.reserved()]
    pairs = []
    for level in range(1, book.depth + 1):
        nodes = nodes_of(book.radix, level)
        held = sum(1 for node in nodes if any(below(other, node) for other in staying))
        filled = sum(1 for size in sizes for node in nodes if node == size or below(node, size))
        pairs.append((held, filled))
    return pairs


def failing_levels(book, request, kept):
    pairs = enumerate(loads(book, request, kept), 1)
    return [level for level, (held, filled) in pairs if held + filled > book.radix ** level]


def wanted_lengths(book, request, recoded):
    words = book.words()
    return {**request, **{name: len(words[name]) for name in recoded}}


def can_place(radix, fixed, lengths):
    """Whether some choice of nodes with these lengths is prefix-free together with the fixed nodes."""
    if not lengths:
        return True
    return any(
        can_place(radix, [*fixed, node], lengths[1:])
        for node in nodes_of(radix, lengths[0]) if not any(conflict(node, other) for other in fixed)
    )


def first_places(radix, fixed, lengths):
    """Names in ascending order of (length, name), each at the first free node of its length; or None."""
    found = {}
    for length, name in sorted((length, name) for name, length in lengths.items()):
        barred = [*fixed, *found.values()]
        places = [node for node in nodes_of(radix, length) if not any(conflict(node, other) for other in barred)]
        if not places:
            return None
        found[name] = places[0]
    return {name: found[name] for name in sorted(found)}


def is_plan(book, request, prices, words):
    """Whether a dict from names to codewords is a plan."""
    if not set(request) <= set(words):
        return False
    old = book.words()
    for name, word in words.items():
        if name in request:
            if len(word) != request[name]:
                return False
        elif name not in old or name not in prices or len(word) != len(old[name]):
            return False
    staying = [word for name, word in others(book, request).items() if name not in words]
    return are_prefix_free([*words.values(), *staying, *book.reserved()])


def subsets(names):
    return [chosen for size in range(len(names) + 1) for chosen in combinations(names, size)]


def requests_over(names, depth, most):
    """All requests for at most so many of these names."""
    return [
        dict(zip(chosen, lengths)) for size in range(most + 1) for chosen in combinations(names, size)
        for lengths in product(range(1, depth + 1), repeat=size)
    ]


def books(radix, depth, most):
    """For each prefix-free set of so many nodes: a codebook of names, a mixed one, and one of reserved strings."""
    made = []
    for nodes in prefix_free_sets(radix, depth):
        if len(nodes) <= most:
            for share in sorted({1, 2, len(nodes) + 1}) if nodes else [1]:
                mine = [node for at, node in enumerate(nodes) if at % share == share - 1]
                rest = [node for node in nodes if node not in mine]
                made.append(Codebook(radix, depth, dict(zip(NAMES, mine)), rest))
    return made


def priced(book, request, prices):
    """The priced names, with their codewords."""
    return {name: word for name, word in others(book, request).items() if name in prices}


def fixed_nodes(book, request, prices):
    """The codewords of firm names and the reserved strings."""
    mine = priced(book, request, prices)
    return [word for name, word in others(book, request).items() if name not in mine] + list(book.reserved())


def option_nodes(book, request):
    """The keys of the dict of options."""
    ends = [*others(book, request).values(), *book.reserved()]
    return {""} | {end[:size] for end in ends for size in range(1, len(end) + 1)}


def here(node, other):
    """Whether a node equals another one or is below it."""
    return node == other or below(node, other)


def option(book, node, kept_nodes, price):
    """The option of a node for all kept codewords and reserved strings."""
    mine = [other for other in kept_nodes if here(other, node)]
    counts = []
    for level in range(len(node), book.depth):
        # No other nodes than these can have an end below them.
        inner = {end[:level] for end in mine if len(end[:level]) == level}
        counts.append(sum(1 for one in inner if here(one, node) and any(below(end, one) for end in mine)))
    return bool(mine), tuple(counts), price


def all_options(book, request, prices, node):
    """The options of a node for all choices of kept names, as often as they come."""
    mine = {name: word for name, word in priced(book, request, prices).items() if here(word, node)}
    found = []
    for kept in subsets(list(mine)):
        ends = [mine[name] for name in kept] + fixed_nodes(book, request, prices)
        found.append(option(book, node, ends, sum(prices[name] for name in mine if name not in kept)))
    return found


def covers(first, second):
    """Whether an option covers another one."""
    return (
        int(first[0]) <= int(second[0]) and first[2] <= second[2]
        and all(count <= other for count, other in zip(first[1], second[1]))
    )


def uncovered_options(book, request, prices, node):
    found = set(all_options(book, request, prices, node))
    return sorted(one for one in found if not any(covers(other, one) for other in found if other != one))


def levels_that_fail(book, request, staying):
    """The levels that fail if these codewords are kept, by the sums of [7]."""
    fixed = [*staying, *book.reserved()]
    sizes = [len(end) for end in [*others(book, request).values(), *book.reserved()]] + list(request.values())
    levels = range(1, book.depth + 1)
    held = {level: len({end[:level] for end in fixed if len(end) > level}) for level in levels}
    filled = {level: sum(book.radix ** (level - size) for size in sizes if size <= level) for level in levels}
    return [level for level in levels if held[level] + filled[level] > book.radix ** level]


def plan_sets(book, request, prices):
    """The sets of recoded names of all plans, with their prices."""
    words = others(book, request)
    found = []
    for recoded in subsets(list(priced(book, request, prices))):
        staying = [word for name, word in words.items() if name not in recoded]
        if not levels_that_fail(book, request, staying):
            found.append((sum(prices[name] for name in recoded), recoded))
    return found


def cheapest_plans(book, request, prices):
    """The least price and all plans that cheapest may return with it, or None."""
    found = plan_sets(book, request, prices)
    if not found:
        return None
    least = min(price for price, recoded in found)
    plans = []
    for price, recoded in found:
        if price == least:
            fixed = [word for name, word in others(book, request).items() if name not in recoded]
            fixed += book.reserved()
            plans.append(first_places(book.radix, fixed, wanted_lengths(book, request, recoded)))
    return least, plans


def no_plan_level(book, request, prices):
    """The smallest level that fails if only the firm names are kept, or None."""
    firm = [word for name, word in others(book, request).items() if name not in prices]
    failing = levels_that_fail(book, request, firm)
    return failing[0] if failing else None
