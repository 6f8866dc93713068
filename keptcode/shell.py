"""A registry that is worked by lines of text."""

from keptcode.coding import decode, encode
from keptcode.commands import PARAMETER_COUNTS
from keptcode.errors import InvalidLine
from keptcode.registry import Registry
from keptcode.text import format_codebook
from keptcode.tree import room

NUMERALS = "0123456789"
LONGEST_NUMBER = 3
OK = "ok"
ALL_FIRM = "-"
NO_NAMES = "-"

# The number of words behind the first one. "encode" takes any number of them.
QUERY_WORDS = {
    "show": 1,
    "room": 1,
    "spent": 1,
    "decode": 2,
    "names": 0,
}


def is_number(word):
    """Tell whether a word is an integer from 1 to 999, written without leading zeros."""
    if len(word) > LONGEST_NUMBER or word[0] == "0":
        return False
    return all([sign in NUMERALS for sign in word])


def is_request_line(arguments):
    """Tell whether words are a name, a price and one or more pairs of a word, each once, and a length."""
    if len(arguments) < 4 or len(arguments) % 2 != 0:
        return False
    price = arguments[1]
    words = arguments[2::2]
    lengths = arguments[3::2]
    if price != ALL_FIRM and not is_number(price):
        return False
    return all([is_number(length) for length in lengths]) and len(set(words)) == len(words)


def word_count(command):
    """Return the number of words behind the first word of a line, or None if there is no such line."""
    if command in PARAMETER_COUNTS:
        return PARAMETER_COUNTS[command]
    return QUERY_WORDS.get(command)


def is_line(words):
    """Tell whether words that are not empty make a line."""
    command, *arguments = words
    if command == "request":
        return is_request_line(arguments)
    if command == "encode":
        return len(arguments) >= 2
    if len(arguments) != word_count(command):
        return False
    return command != "create" or all([is_number(word) for word in arguments[1:]])


def split_line(line):
    """Return the list of the words of a line."""
    if not isinstance(line, str):
        raise InvalidLine("the line is not a string")
    words = line.split(" ")
    if "" in words or not is_line(words):
        raise InvalidLine("there is no such line")
    return words


def run_create(registry, name, radix, depth):
    """Run a create line; return its answer."""
    registry.create(name, int(radix), int(depth))
    return OK


def run_request(registry, name, price, *pairs):
    """Run a request line; return its answer."""
    prices = {}
    book = registry.book(name)
    if price != ALL_FIRM:
        prices = {word: int(price) for word in book.words()}
    request = {word: int(length) for word, length in zip(pairs[0::2], pairs[1::2])}
    return str(registry.request(name, request, prices))


def run_show(registry, name):
    """Run a show line; return its answer."""
    return format_codebook(registry.book(name)).replace("\n", " / ")


def run_room(registry, name):
    """Run a room line; return its answer."""
    return " ".join([str(number) for number in room(registry.book(name))])


def run_spent(registry, name):
    """Run a spent line; return its answer."""
    return str(registry.spent(name))


def run_encode(registry, name, *words):
    """Run an encode line; return its answer."""
    return encode(registry.book(name), words)


def run_decode(registry, name, digits):
    """Run a decode line; return its answer."""
    return " ".join(decode(registry.book(name), digits))


def run_names(registry):
    """Run a names line; return its answer."""
    return " ".join(registry.names() or [NO_NAMES])


ANSWERS = {
    "create": run_create,
    "request": run_request,
    "show": run_show,
    "room": run_room,
    "spent": run_spent,
    "encode": run_encode,
    "decode": run_decode,
    "names": run_names,
}


class Shell:
    """Executes lines on a registry."""

    def __init__(self):
        self._registry = Registry()

    def run(self, line):
        """Execute a line; return its answer."""
        words = split_line(line)
        command, *arguments = words
        if command in ANSWERS:
            answer = ANSWERS[command]
            return answer(self._registry, *arguments)
        # The words of the other lines are a command of the registry as they stand.
        self._registry.batch([tuple(words)])
        return OK
