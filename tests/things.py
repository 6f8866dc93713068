"""What several tests share: odd objects, codebooks of every size, and exact errors."""

from itertools import combinations, product

from keptcode.codebooks import Codebook


def nested(levels):
    thing = "a"
    for level in range(levels):
        thing = ([thing], (thing,), {"a": thing}, {level: thing})[level % 4]
    return thing


# None of these is a name, a codeword, a dict of words, a list or tuple of
# codewords, a text of a codebook or a string of digits.
ODD_THINGS = (
    None, True, False, 0, 1, 2, 3, -1, -7, 10, 10 ** 39, -(10 ** 39), 10 ** 40 - 1,
    " ", "\t", "\n", "a b", "A", "Z", "aB", "a1", "1a", "a-b", "~", "`", "{", "@", "[", "/", ":",
    "a\n", "a\t", "\na", " a", "a ", " 0", "0 ", "0\n", "0\t", "-0", "+0", "0.0", "0_0", "x" * 5000,
    [None], [0], [[]], [["a"]], ["a", 1], ["0", None], [True], [{}], ["0", ["1"]],
    (None,), (0,), ((),), ("a", []), (["a"],), ({},), ("0", ("1",)),
    {"a": None}, {"a": 0}, {"a": ["0"]}, {0: "0"}, {1: "a"}, {"0": "a"}, {"": ""}, {"a": {"a": "0"}},
    nested(19), nested(20),
)

# As keys of dicts these are no names.
WRONG_KEYS = (
    "", "abcdefghi", "A", "aB", "Ba", "a1", "1a", "0", "-", "a-b", "a ", " a", "a\n", "\ta", "`", "{",
    0, 1, -1, 7, 10 ** 39, -(10 ** 39),
)

# In lists these are no names, and the last ones cannot be hashed.
WRONG_NAMES = WRONG_KEYS + (True, False, None, ("a",), (), ((),), ["a"], [], {}, {"a": 1}, ([],), ("a", {}))


def wrong_lengths(depth):
    return (
        0, -1, -depth, depth + 1, depth + 2, 7, 100, 10 ** 39, -(10 ** 39), True, False, None,
        "", "1", "a", "0" * depth, (), (1,), [], [1], {}, {1: 1}, {"a": 1}, [[]], ({},),
    )


def wrong_tables(right, wrong_values):
    """Dicts from names to right values, each made wrong at one place, and other things."""
    key_faults = [{name: right} for name in WRONG_KEYS]
    value_faults = [{"a": value} for value in wrong_values]
    mixed = [{"c": right, **fault, "d": right} for fault in key_faults + value_faults]
    both = [{name: value} for name, value in zip(WRONG_KEYS, wrong_values)]
    pairs = ([], (), "", "a", [("a", right)], ["a"], ("a",), ("a", right), [["a", right]])
    return [*ODD_THINGS, *pairs, *key_faults, *value_faults, *mixed, *both]


def wrong_requests(depth):
    return wrong_tables(1, wrong_lengths(depth))


WRONG_PRICES = wrong_tables(
    1, (0, -1, -999, 1000, 1001, 10 ** 39, -(10 ** 39), True, False, None, "", "1", "a", (), (1,), [], [1], {}, {1: 1}),
)

# These fit one place of the interface or another, but not every one.
EMPTY_THINGS = ("", [], (), {})


def strings_of(digits, longest):
    """All strings of these digits, the empty one included."""
    return ["".join(signs) for length in range(longest + 1) for signs in product(digits, repeat=length)]


def are_prefix_free(nodes):
    """By the words of the document: no one equals or is a prefix of another one."""
    return not any(
        other.startswith(node)
        for at, node in enumerate(nodes) for there, other in enumerate(nodes) if at != there
    )


def prefix_free_sets(radix, depth):
    """All prefix-free sets of codewords, as ascending tuples."""
    nodes = sorted(strings_of("0123"[:radix], depth))[1:]
    return [
        chosen for size in range(radix ** depth + 1) for chosen in combinations(nodes, size)
        if are_prefix_free(chosen)
    ]


def small_books(radix, depth, names):
    """All codebooks over some of the names, in which the other codewords are reserved."""
    books = []
    for nodes in prefix_free_sets(radix, depth):
        for owners in product([None, *names], repeat=len(nodes)):
            used = [name for name in owners if name is not None]
            if len(used) == len(set(used)):
                words = {name: node for name, node in zip(owners, nodes) if name is not None}
                reserved = [node for name, node in zip(owners, nodes) if name is None]
                books.append((words, reserved))
    return books


def snapshot(thing):
    """A string that tells whether a thing has changed, the order of dicts included."""
    if isinstance(thing, Codebook):
        return repr((thing.radix, thing.depth, thing.words(), thing.reserved()))
    return repr(thing)


def snapshots(arguments, named):
    return [snapshot(thing) for thing in [*arguments, *named.values()]]


def caught(test, error, call, *arguments, **named):
    """Return the error that a call raises; it must be of exactly this class, and leave the arguments alone."""
    before = snapshots(arguments, named)
    with test.assertRaises(error) as context:
        call(*arguments, **named)
    test.assertIs(type(context.exception), error)
    test.assertEqual(snapshots(arguments, named), before)
    return context.exception


def spoil(thing):
    """Change a returned list or dict as a caller may do."""
    if isinstance(thing, list):
        thing.append("spoilt")
        thing[0] = "spoilt"
    if isinstance(thing, dict):
        thing.clear()
        thing["spoilt"] = "spoilt"


def fresh(test, call, *arguments, **named):
    """Return what a call returns, if it returns the same thing twice, as a new object, and changes no argument."""
    before = snapshots(arguments, named)
    first = call(*arguments, **named)
    wanted = snapshot(first)
    spoil(first)
    second = call(*arguments, **named)
    test.assertEqual(snapshot(second), wanted)
    test.assertEqual(snapshots(arguments, named), before)
    return second


def full_book(radix, depth):
    """A codebook whose names own every codeword of the full depth."""
    nodes = [node for node in strings_of("0123"[:radix], depth) if len(node) == depth]
    names = ["".join(signs) for signs in product("abcdefgh", repeat=4)][:len(nodes)]
    return Codebook(radix, depth, dict(zip(names, nodes)))
