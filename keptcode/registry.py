"""Codebooks by name, with marks, batches and a log."""

from keptcode.commands import ACTIONS, Shelf, held, is_command
from keptcode.errors import CodeError, InvalidCommand

BATCH = "batch"
DONE = "done"
FAILED = "failed"


class Registry:
    """Keeps codebooks by name. Each command leaves its name and its outcome in a log."""

    def __init__(self):
        self._shelf = Shelf({}, {})
        self._entries = []

    def _run(self, command, *arguments):
        self._entries.append(command)
        action = ACTIONS[command]
        try:
            result = action(self._shelf, *arguments)
        except CodeError:
            self._entries.append(FAILED)
            raise
        self._entries.append(DONE)
        return result

    def create(self, name, radix, depth):
        """Add an empty codebook."""
        self._run("create", name, radix, depth)

    def request(self, name, request, prices):
        """Fulfil a request for a codebook by a cheapest plan; return the price."""
        return self._run("request", name, request, prices)

    def remove(self, name, word):
        """Remove a name from a codebook."""
        self._run("remove", name, word)

    def reserve(self, name, string):
        """Add a reserved string to a codebook."""
        self._run("reserve", name, string)

    def release(self, name, string):
        """Remove a reserved string from a codebook."""
        self._run("release", name, string)

    def drop(self, name):
        """Remove a codebook."""
        self._run("drop", name)

    def mark(self, label):
        """Record all codebooks and amounts spent."""
        self._run("mark", label)

    def back(self, label):
        """Restore the codebooks and amounts spent that a mark recorded."""
        self._run("back", label)

    def batch(self, commands):
        """Execute a list of commands, all or none; return the list of their results."""
        before = self._shelf.copy()
        self._entries.append(BATCH)
        try:
            results = self._run_all(commands)
        except CodeError:
            self._shelf = before
            self._entries.append(FAILED)
            raise
        self._entries.append(DONE)
        return results

    def _run_all(self, commands):
        if not isinstance(commands, list):
            raise InvalidCommand("the commands are not a list")
        results = []
        for item in commands:
            if not is_command(item):
                raise InvalidCommand("this is not a command with its arguments")
            results.append(self._run(*item))
        return results

    def names(self):
        """Return the ascending list of the names of the codebooks."""
        return sorted(self._shelf.holdings)

    def book(self, name):
        """Return a codebook."""
        book, _ = held(self._shelf, name)
        return book

    def spent(self, name):
        """Return the sum of the prices of the requests of a codebook since it was created."""
        _, spent = held(self._shelf, name)
        return spent

    def log(self):
        """Return the list of the commands' names, each with its outcome."""
        return list(self._entries)

    def copy(self):
        """Return an independent registry with the same codebooks, amounts and marks and an empty log."""
        twin = Registry()
        twin._shelf = self._shelf.copy()
        return twin
