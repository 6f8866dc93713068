"""The versions of a codebook, and messages that name their version."""

from keptcode.cheapest import fulfil
from keptcode.codebooks import is_whole
from keptcode.coding import decode, encode
from keptcode.errors import InvalidMessage, UnknownVersion


class History:
    """Keeps the versions of a codebook that changes by requests."""

    def __init__(self, book):
        self._books = [book]
        self._spent = 0

    def change(self, request, prices):
        """Fulfil a request for the latest version by a cheapest plan; return the price."""
        price, book = fulfil(self._books[-1], request, prices)
        self._books.append(book)
        self._spent += price
        return price

    def book(self, version=None):
        """Return the codebook of a version, by default of the latest one."""
        if version is None:
            return self._books[-1]
        return self._known_book(version)

    def _known_book(self, version):
        if not is_whole(version) or not 0 <= version < len(self._books):
            raise UnknownVersion("there is no such version")
        return self._books[version]

    def __len__(self):
        return len(self._books)

    def spent(self):
        """Return the sum of the prices of all changes."""
        return self._spent

    def stable(self, first, second):
        """Return the ascending list of the names that have the same codeword in two versions."""
        words = self._known_book(first).words()
        others = self._known_book(second).words()
        return [name for name in words if name in others and others[name] == words[name]]

    def send(self, names, *, version=None):
        """Return the message with some names in a version, by default in the latest one."""
        number = len(self._books) - 1 if version is None else version
        return number, encode(self._known_book(number), names)

    def receive(self, message):
        """Return the list of the names of a message."""
        if not isinstance(message, tuple) or len(message) != 2:
            raise InvalidMessage("the message is not a tuple of two items")
        version, digits = message
        return decode(self._known_book(version), digits)

    def copy(self):
        """Return an independent history in the same state."""
        twin = History(self._books[0])
        twin._books = list(self._books)
        twin._spent = self._spent
        return twin
