"""Encode names and decode digits with a codebook."""

from keptcode.codebooks import ancestors
from keptcode.errors import DecodeError, UnknownName


def encode(book, names):
    """Return the codewords of a list or tuple of names, joined in order."""
    if not isinstance(names, (list, tuple)):
        raise UnknownName("the names are not a list or tuple")
    return "".join([book.codeword(name) for name in names])


def names_by_codeword(book):
    """Return the dict from the codewords of a codebook to their names."""
    return {word: name for name, word in book.words().items()}


def codeword_end(owners, depth, digits, start):
    """Return the end of the codeword that starts at a position, or None if none does."""
    for end in range(start + 1, min(start + depth, len(digits)) + 1):
        if digits[start:end] in owners:
            return end
    return None


def remove_codewords(owners, depth, digits):
    """Remove codewords from the left; return the list of their names and the number of digits removed."""
    names = []
    start = 0
    end = codeword_end(owners, depth, digits, start)
    while end is not None:
        names.append(owners[digits[start:end]])
        start = end
        end = codeword_end(owners, depth, digits, start)
    return names, start


def decode(book, digits):
    """Return the list of the names whose codewords, joined, are a string."""
    if not isinstance(digits, str):
        raise DecodeError(0)
    names, removed = remove_codewords(names_by_codeword(book), book.depth, digits)
    if removed < len(digits):
        raise DecodeError(removed)
    return names


def unfinished_codewords(owners):
    """Return a dict of True for each string that may be pending."""
    # Nothing may be pending even where there is no codeword to wait for.
    unfinished = {"": True}
    for word in owners:
        for prefix in ancestors(word):
            unfinished[prefix] = True
    return unfinished


class Decoder:
    """Decodes a string that arrives in parts."""

    def __init__(self, book):
        self._book = book
        self._owners = names_by_codeword(book)
        self._unfinished = unfinished_codewords(self._owners)
        self._removed = 0
        self._pending = ""

    def feed(self, digits):
        """Return the list of the names that the digits complete."""
        if not isinstance(digits, str):
            raise DecodeError(self._removed)
        waiting = self._pending + digits
        names, removed = remove_codewords(self._owners, self._book.depth, waiting)
        rest = waiting[removed:]
        if rest not in self._unfinished:
            raise DecodeError(self._removed + removed)
        self._removed += removed
        self._pending = rest
        return names

    def pending(self):
        """Return the digits since the last completed codeword."""
        return self._pending

    def copy(self):
        """Return an independent decoder in the same state."""
        twin = Decoder(self._book)
        twin._removed = self._removed
        twin._pending = self._pending
        return twin
