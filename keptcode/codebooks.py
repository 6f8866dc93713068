"""Names, codewords and codebooks."""

from keptcode.errors import InvalidCodebook, UnknownName

LETTERS = "abcdefghijklmnopqrstuvwxyz"
DIGITS = "0123456789"
LONGEST_NAME = 8
RADIXES = (2, 3, 4)
DEPTHS = (1, 2, 3, 4, 5, 6)


def is_whole(thing):
    """Tell whether a thing is an integer; True and False are none."""
    return isinstance(thing, int) and not isinstance(thing, bool)


def is_shape(radix, depth):
    """Tell whether two things are a radix and a depth."""
    return is_whole(radix) and radix in RADIXES and is_whole(depth) and depth in DEPTHS


def is_length(depth, thing):
    """Tell whether a thing is an integer from 1 to a depth."""
    return is_whole(thing) and 1 <= thing <= depth


def is_name(thing):
    """Tell whether a thing is a name."""
    if not isinstance(thing, str) or not 1 <= len(thing) <= LONGEST_NAME:
        return False
    return all([letter in LETTERS for letter in thing])


def is_codeword(radix, depth, thing):
    """Tell whether a thing has the form of a codeword for a radix and a depth."""
    if not isinstance(thing, str) or not 1 <= len(thing) <= depth:
        return False
    return all([digit in DIGITS[:radix] for digit in thing])


def ancestors(node):
    """Return the proper prefixes of a node, from the root downwards."""
    return [node[:end] for end in range(len(node))]


def first_clash(nodes):
    """Return the index of the first node that equals an earlier one, is a prefix of one or has one as a prefix.

    Return None if there is none. The nodes are not empty.
    """
    earlier = {}
    above_earlier = {}
    for at, node in enumerate(nodes):
        above = ancestors(node)
        if node in earlier or node in above_earlier or any([prefix in earlier for prefix in above]):
            return at
        earlier[node] = True
        for prefix in above:
            above_earlier[prefix] = True
    return None


def is_word_table(radix, depth, thing):
    """Tell whether a thing is a dict from names to codewords."""
    if not isinstance(thing, dict):
        return False
    return all([is_name(name) and is_codeword(radix, depth, word) for name, word in thing.items()])


def is_codeword_list(radix, depth, thing):
    """Tell whether a thing is a list or tuple of strings that have the form of codewords."""
    return isinstance(thing, (list, tuple)) and all([is_codeword(radix, depth, node) for node in thing])


def forms_codebook(radix, depth, words, reserved):
    """Tell whether four things form a codebook."""
    if not is_shape(radix, depth) or not is_word_table(radix, depth, words):
        return False
    if not is_codeword_list(radix, depth, reserved):
        return False
    return first_clash(list(words.values()) + list(reserved)) is None


class Codebook:
    """A radix, a depth, a codeword for each name, and reserved strings. It does not change."""

    def __init__(self, radix, depth, words, reserved=()):
        if not forms_codebook(radix, depth, words, reserved):
            raise InvalidCodebook("the arguments do not form a codebook")
        self.radix = radix
        self.depth = depth
        self._words = {name: words[name] for name in sorted(words)}
        self._reserved = sorted(reserved)

    def words(self):
        """Return the dict from names to codewords, in ascending order of the names."""
        return dict(self._words)

    def reserved(self):
        """Return the ascending tuple of the reserved strings."""
        return tuple(self._reserved)

    def codeword(self, name):
        """Return the codeword of a name."""
        # The form is tested first, as an object that is not hashable cannot be looked up.
        if not is_name(name) or name not in self._words:
            raise UnknownName("the codebook does not have this name")
        return self._words[name]

    def __len__(self):
        return len(self._words)

    def __eq__(self, other):
        return (
            isinstance(other, Codebook)
            and self.radix == other.radix
            and self.depth == other.depth
            and self._words == other._words
            and self._reserved == other._reserved
        )
