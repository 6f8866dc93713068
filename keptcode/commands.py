"""The commands of a registry, and the codebooks and marks that they work on."""

from keptcode.cheapest import fulfil
from keptcode.codebooks import Codebook, is_codeword, is_name
from keptcode.errors import DuplicateName, InvalidName, NotFree, NotReserved, UnknownMark, UnknownName
from keptcode.tree import free_nodes


class Shelf:
    """Codebooks with the amounts spent on them, by name, and marks of earlier states, by label."""

    def __init__(self, holdings, marks):
        # A holding is a tuple (codebook, amount spent), and a mark is a dict of holdings; neither of them changes.
        self.holdings = dict(holdings)
        self.marks = dict(marks)

    def copy(self):
        """Return an independent shelf with the same codebooks, amounts and marks."""
        return Shelf(self.holdings, self.marks)


def check_new(taken, name):
    """Raise an error if a thing is not a name, or is a key of a dict already."""
    if not is_name(name):
        raise InvalidName("this does not have the form of a name")
    if name in taken:
        raise DuplicateName("the name is taken")


def held(shelf, name):
    """Return the codebook of a name and the amount spent on it."""
    # The form is tested first, as an object that is not hashable cannot be looked up.
    if not is_name(name) or name not in shelf.holdings:
        raise UnknownName("there is no codebook of this name")
    return shelf.holdings[name]


def create(shelf, name, radix, depth):
    """Add an empty codebook."""
    check_new(shelf.holdings, name)
    shelf.holdings[name] = (Codebook(radix, depth, {}), 0)


def request_words(shelf, name, request, prices):
    """Fulfil a request by a cheapest plan; return the price."""
    book, spent = held(shelf, name)
    price, changed = fulfil(book, request, prices)
    shelf.holdings[name] = (changed, spent + price)
    return price


def remove(shelf, name, word):
    """Remove a name from a codebook."""
    book, spent = held(shelf, name)
    words = book.words()
    if not is_name(word) or word not in words:
        raise UnknownName("the codebook does not have this name")
    del words[word]
    shelf.holdings[name] = (Codebook(book.radix, book.depth, words, book.reserved()), spent)


def reserve(shelf, name, string):
    """Add a reserved string to a codebook."""
    book, spent = held(shelf, name)
    if not is_codeword(book.radix, book.depth, string) or string not in free_nodes(book, len(string)):
        raise NotFree("the string is not a free node")
    reserved = list(book.reserved()) + [string]
    shelf.holdings[name] = (Codebook(book.radix, book.depth, book.words(), reserved), spent)


def release(shelf, name, string):
    """Remove a reserved string from a codebook."""
    book, spent = held(shelf, name)
    if string not in book.reserved():
        raise NotReserved("the string is not reserved")
    reserved = [node for node in book.reserved() if node != string]
    shelf.holdings[name] = (Codebook(book.radix, book.depth, book.words(), reserved), spent)


def drop(shelf, name):
    """Remove a codebook."""
    held(shelf, name)
    del shelf.holdings[name]


def mark(shelf, label):
    """Record all codebooks and amounts spent."""
    check_new(shelf.marks, label)
    shelf.marks[label] = dict(shelf.holdings)


def back(shelf, label):
    """Restore the codebooks and amounts spent that a mark recorded."""
    if not is_name(label) or label not in shelf.marks:
        raise UnknownMark("there is no such mark")
    shelf.holdings = dict(shelf.marks[label])


ACTIONS = {
    "create": create,
    "request": request_words,
    "remove": remove,
    "reserve": reserve,
    "release": release,
    "drop": drop,
    "mark": mark,
    "back": back,
}

PARAMETER_COUNTS = {
    "create": 3,
    "request": 3,
    "remove": 2,
    "reserve": 2,
    "release": 2,
    "drop": 1,
    "mark": 1,
    "back": 1,
}


def is_command(thing):
    """Tell whether a thing is a tuple of the name of a command and as many arguments as it has parameters."""
    if not isinstance(thing, tuple) or not thing or not isinstance(thing[0], str):
        return False
    return thing[0] in PARAMETER_COUNTS and len(thing) == PARAMETER_COUNTS[thing[0]] + 1
