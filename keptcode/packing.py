"""Assign codewords of given lengths beside codewords that stay."""

from keptcode.capacity import failing_level
from keptcode.codebooks import Codebook, is_shape
from keptcode.errors import InvalidRequest, NoRoom
from keptcode.request import check_request, unrequested_words
from keptcode.tree import free_beside


def first_free(radix, fixed, lengths):
    """Return the dict from names to codewords of their lengths that are free beside fixed nodes.

    Names in ascending order of (length, name) each get the first free node. There is room for all of them.
    """
    found = {}
    for length in sorted(set(list(lengths.values()))):
        names = [name for name in sorted(lengths) if lengths[name] == length]
        # Nodes of one length are not in each other's way, so their free nodes are listed once.
        free = free_beside(radix, fixed + list(found.values()), length)
        found.update(dict(zip(names, free)))
    return {name: found[name] for name in sorted(found)}


def pack(book, request, kept):
    """Return the ascending dict from the names that are requested or not kept to their new codewords.

    The kept names are the keys of a dict. A name that is neither requested nor kept keeps its length.
    """
    level = failing_level(book, request, list(kept))
    if level is not None:
        raise NoRoom(level)
    words = unrequested_words(book, request)
    lengths = {name: len(words[name]) for name in words if name not in kept}
    lengths.update(request)
    fixed = [words[name] for name in kept] + list(book.reserved())
    return first_free(book.radix, fixed, lengths)


def assign(book, request):
    """Return the codebook with the requested names, in which every other name keeps its codeword."""
    check_request(book, request)
    kept = unrequested_words(book, request)
    found = pack(book, request, kept)
    return Codebook(book.radix, book.depth, {**kept, **found}, book.reserved())


def canonical(radix, depth, lengths):
    """Return the codebook that gives names codewords of these lengths and has nothing else."""
    if not is_shape(radix, depth):
        raise InvalidRequest("the arguments are not a radix and a depth")
    return assign(Codebook(radix, depth, {}), lengths)
