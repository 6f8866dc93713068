"""Codebooks, requests and prices that are drawn, always the same ones for the same seed."""

from keptcode.codebooks import Codebook
from tests.by_words import conflict

OWNERS = ("a", "b", "c", "d", "e", "f", "g", "h", "i", "j", "k", "l", "m", "n", "o", "p", "q", "r")
STRANGERS = ("u", "v", "w", "x")


def nodes(draw, radix, depth, tries, levels=None):
    """A prefix-free list of drawn nodes, in the order in which they were drawn."""
    found = []
    for _ in range(tries):
        size = draw.choice(levels or range(1, depth + 1))
        node = "".join(draw.choice("0123"[:radix]) for _ in range(size))
        if not any(conflict(node, other) for other in found):
            found.append(node)
    return found


def book(draw, radix, depth, tries, levels=None):
    """A codebook of drawn nodes, about every fifth of them a reserved string."""
    words, reserved = {}, []
    names = list(OWNERS)
    draw.shuffle(names)
    for node in nodes(draw, radix, depth, tries, levels):
        if draw.randrange(5) == 0 or not names:
            reserved.append(node)
        else:
            words[names.pop()] = node
    return Codebook(radix, depth, words, reserved)


def request(draw, old, most):
    """A request for at most so many old and new names."""
    names = draw.sample([*old.words(), *STRANGERS], min(draw.randrange(most + 1), len(old) + 4))
    return {name: draw.randint(1, old.depth) for name in names}


def prices(draw, old, highest=999):
    """Prices for about two thirds of the names, for at most twelve of them, and for a stranger."""
    names = [name for name in old.words() if draw.randrange(3)]
    draw.shuffle(names)
    return {name: draw.randint(1, highest) for name in [*names[:12], draw.choice(STRANGERS)]}
