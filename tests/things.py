"""What several tests share: odd objects, codebooks of every size, and exact errors."""

from itertools import combinations, product

from keptcode.codebooks import Codebook


def nested(levels):
    thing = "a"
    for level in range(levels):
        thing = ([thing], (thing,), {"a": thing}, {level: thing})[level % 4]
    return thing


# None of these is a name, a codeword, a dict of words, a list or tuple of
# codewords, a text of a codebook or a string of digits.
ODD_THINGS = (
    None, True, False, 0, 1, 2, 3, -1, -7, 10, 10 ** 39, -(10 ** 39), 10 ** 40 - 1,
    " ", "\t", "\n", "a b", "A", "Z", "aB", "a1", "1a", "a-b", "~", "`", "{", "@", "[", "/", ":",
    "a\n", "a\t", "\na", " a", "a ", " 0", "0 ", "0\n", "0\t", "-0", "+0", "0.0", "0_0", "x" * 5000,
    [None], [0], [[]], [["a"]], ["a", 1], ["0", None], [True], [{}], ["0", ["1"]],
    (None,), (0,), ((),), ("a", []), (["a"],), ({},), ("0", ("1",)),
    {"a": None}, {"a": 0}, {"a": ["0"]}, {0: "0"}, {1: "a"}, {"0": "a"}, {"": ""}, {"a": {"a": "0"}},
    nested(19), nested(20),
)

# These fit one place of the interface or another, but not every one.
EMPTY_THINGS = ("", [], (), {})


def strings_of(digits, longest):
    """All strings of these digits, the empty one included."""
    return ["".join(signs) for length in range(longest + 1) for signs in product(digits, repeat=length)]


def are_prefix_free(nodes):
    """By the words of the document: no one equals or is a prefix of another one."""
    return not any(
        other.startswith(node)
        for at, node in enumerate(nodes) for there, other in enumerate(nodes) if at != there
    )


def prefix_free_sets(radix, depth):
    """All prefix-free sets of codewords, as ascending tuples."""
    nodes = sorted(strings_of("0123"[:radix], depth))[1:]
    return [
        chosen for size in range(radix ** depth + 1) for chosen in combinations(nodes, size)
        if are_prefix_free(chosen)
    ]


def small_books(radix, depth, names):
    """All codebooks over some of the names, in which the other codewords are reserved."""
    books = []
    for nodes in prefix_free_sets(radix, depth):
        for owners in product([None, *names], repeat=len(nodes)):
            used = [name for name in owners if name is not None]
            if len(used) == len(set(used)):
                words = {name: node for name, node in zip(owners, nodes) if name is not None}
                reserved = [node for name, node in zip(owners, nodes) if name is None]
                books.append((words, reserved))
    return books


def caught(test, error, call, *arguments, **named):
    """Return the error that a call raises; it must be of exactly this class."""
    with test.assertRaises(error) as context:
        call(*arguments, **named)
    test.assertIs(type(context.exception), error)
    return context.exception


def full_book(radix, depth):
    """A codebook whose names own every codeword of the full depth."""
    nodes = [node for node in strings_of("0123"[:radix], depth) if len(node) == depth]
    names = ["".join(signs) for signs in product("abcdefgh", repeat=4)][:len(nodes)]
    return Codebook(radix, depth, dict(zip(names, nodes)))
