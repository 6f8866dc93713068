"""How full the levels of a code tree are if names are kept."""

from keptcode.errors import InvalidKept
from keptcode.request import check_request, is_selection, unrequested_words
from keptcode.tree import touched_above


def level_size(radix, level):
    """Return the number of nodes of a level."""
    size = 1
    for _ in range(level):
        size = size * radix
    return size


def filled_nodes(radix, lengths, level):
    """Return the number of nodes of a level that codewords of these lengths fill."""
    return sum([level_size(radix, level - length) for length in lengths if length <= level])


def loads(book, request, kept):
    """Return the list of the pairs (T(k), B(k)) for the levels k from 1 to the depth."""
    check_request(book, request)
    words = unrequested_words(book, request)
    if not is_selection(words, kept):
        raise InvalidKept("the kept names are not a list or tuple of different names that are not requested")
    reserved = book.reserved()
    fixed = [words[name] for name in kept] + list(reserved)
    lengths = [len(node) for node in list(words.values()) + list(reserved)] + list(request.values())
    return [
        (len(touched_above(fixed, level)), filled_nodes(book.radix, lengths, level))
        for level in range(1, book.depth + 1)
    ]


def failing_level(book, request, kept):
    """Return the smallest level that fails, or None."""
    for level, (held, filled) in enumerate(loads(book, request, kept), start=1):
        if held + filled > level_size(book.radix, level):
            return level
    return None
