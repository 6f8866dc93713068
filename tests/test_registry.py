"""Registries: [2], [11] (last item), [33], [34]."""

import unittest
from itertools import product
from random import Random

from keptcode.cheapest import cheapest
from keptcode.codebooks import Codebook
from keptcode.errors import (
    CodeError, DuplicateName, InvalidCodebook, InvalidCommand, InvalidName, InvalidPrices, InvalidRequest, NoPlan,
    NotFree, NotReserved, TooLarge, UnknownMark, UnknownName,
)
from keptcode.plans import apply_plan
from keptcode.registry import Registry
from tests import by_words
from tests.things import EMPTY_THINGS, ODD_THINGS, WRONG_NAMES, WRONG_PRICES, caught, full_book, snapshot, wrong_requests

PARAMETERS = {
    "create": 3, "request": 3, "remove": 2, "reserve": 2, "release": 2, "drop": 1, "mark": 1, "back": 1,
}
QUERIES = ("names", "book", "spent", "log", "copy")
NO_NAMES = list(ODD_THINGS + EMPTY_THINGS + WRONG_NAMES) + ["abcdefghi", ["main"], ("main",), {"main": 1}]


def example():
    registry = Registry()
    registry.create("main", 2, 2)
    registry.request("main", {"a": 2, "b": 2}, {})
    registry.request("main", {"c": 1}, {"a": 4, "b": 4})
    return registry


def full_registry(count):
    """A registry with a full codebook of depth 4 that has so many names priced."""
    registry = Registry()
    registry.create("full", 2, 4)
    registry.request("full", {name: 4 for name in full_book(2, 4).words()}, {})
    names = list(registry.book("full").words())
    return registry, {name: 1 for name in names[:count]}


def shelf(registry):
    """The codebooks and amounts of a registry."""
    return [(name, snapshot(registry.book(name)), registry.spent(name)) for name in registry.names()]


def run(registry, command):
    """Run a command that is given as a tuple."""
    return getattr(registry, command[0])(*command[1:])


class Model:
    """The words of the document over plain dicts; a codebook is kept as [radix, depth, words, reserved, spent]."""

    def __init__(self):
        self.books, self.marks, self.log = {}, {}, []

    def copied(self, books):
        return {name: [radix, depth, dict(words), list(kept), spent]
                for name, (radix, depth, words, kept, spent) in books.items()}

    def run(self, command):
        """Run a command; return its result, or the error and its level."""
        self.log.append(command[0])
        try:
            result = getattr(self, command[0])(*command[1:])
        except CodeError as error:
            self.log.append("failed")
            raise error
        self.log.append("done")
        return result

    def check(self, holds, error, *arguments):
        if not holds:
            raise error(*(arguments or ("wrong",)))

    def is_name(self, thing):
        return isinstance(thing, str) and 1 <= len(thing) <= 8 and set(thing) <= set("abcdefghijklmnopqrstuvwxyz")

    def known(self, name):
        self.check(self.is_name(name) and name in self.books, UnknownName)
        return self.books[name]

    def create(self, name, radix, depth):
        self.check(self.is_name(name), InvalidName)
        self.check(name not in self.books, DuplicateName)
        self.check(type(radix) is int and 2 <= radix <= 4 and type(depth) is int and 1 <= depth <= 6, InvalidCodebook)
        self.books[name] = [radix, depth, {}, [], 0]

    def request(self, name, request, prices):
        mine = self.known(name)
        book = Codebook(*mine[:4])
        lengths = range(1, mine[1] + 1)
        self.check(type(request) is dict and all(
            self.is_name(word) and type(length) is int and length in lengths for word, length in request.items()
        ), InvalidRequest)
        self.check(type(prices) is dict and all(
            self.is_name(word) and type(price) is int and 1 <= price <= 999 for word, price in prices.items()
        ), InvalidPrices)
        self.check(len(by_words.priced(book, request, prices)) <= 12, TooLarge)
        level = by_words.no_plan_level(book, request, prices)
        self.check(level is None, NoPlan, level)
        price, plan = cheapest(book, request, prices)
        mine[2] = apply_plan(book, request, prices, plan).words()
        mine[4] += price
        return price

    def remove(self, name, word):
        words = self.known(name)[2]
        self.check(self.is_name(word) and word in words, UnknownName)
        del words[word]

    def reserve(self, name, string):
        radix, depth, words, kept, _ = self.known(name)
        nodes = by_words.all_nodes(radix, depth)
        self.check(string in nodes and by_words.is_free(Codebook(radix, depth, words, kept), string), NotFree)
        kept.append(string)

    def release(self, name, string):
        kept = self.known(name)[3]
        self.check(string in kept, NotReserved)
        kept.remove(string)

    def drop(self, name):
        self.known(name)
        del self.books[name]

    def mark(self, label):
        self.check(self.is_name(label), InvalidName)
        self.check(label not in self.marks, DuplicateName)
        self.marks[label] = self.copied(self.books)

    def back(self, label):
        self.check(self.is_name(label) and label in self.marks, UnknownMark)
        self.books = self.copied(self.marks[label])

    def batch(self, commands):
        books, marks = self.copied(self.books), dict(self.marks)
        try:
            self.check(type(commands) is list, InvalidCommand)
            results = []
            for item in commands:
                self.check(
                    type(item) is tuple and len(item) > 0 and type(item[0]) is str
                    and PARAMETERS.get(item[0]) == len(item) - 1, InvalidCommand,
                )
                results.append(self.run(item))
            return results
        except CodeError as error:
            self.books, self.marks = books, marks
            raise error

    def shelf(self):
        return [(name, snapshot(Codebook(*self.books[name][:4])), self.books[name][4]) for name in sorted(self.books)]


def draw_command(draw, model):
    """A drawn command, which may fail."""
    words = ["a", "b", "c", "d", "e", "f"]
    name = draw.choice(["aa", "bb", "cc", "Dd", 5] if draw.randrange(8) == 0 else list(model.books) or ["aa"])
    label = draw.choice(["aa", "mm", "nn", "oo", "pp"] + (["", None] if draw.randrange(8) == 0 else []))
    kind = draw.choice(3 * ["create"] + ["drop", "mark", "back"] + 9 * ["request"] + 2 * ["remove", "reserve", "release"])
    node = draw.choice(by_words.all_nodes(2, 3) + ["", "2", None])
    if name in model.books and kind == "release" and model.books[name][3] and draw.randrange(3):
        node = draw.choice(model.books[name][3])
    if kind == "create":
        name = draw.choice([name, "aa", "bb", "cc", "dd"])
        return kind, name, draw.choice([2, 2, 2, 3, 5]), draw.choice([2, 3, 3, 4, 7])
    if kind == "request":
        request = {word: draw.randint(1, 4) for word in draw.sample(words, draw.randrange(3))}
        prices = {word: draw.randint(0 if draw.randrange(20) == 0 else 1, 9) for word in draw.sample(words, 4)}
        return kind, name, request, prices
    if kind == "remove":
        return kind, name, draw.choice(words)
    if kind in ("reserve", "release"):
        return kind, name, node
    if kind == "drop":
        return kind, name
    return kind, label


def draw_item(draw, model):
    """An item of a batch, now and then not a command."""
    if draw.randrange(15) == 0:
        return draw.choice([("names",), ("batch", []), ("drop",), ["drop", "aa"], None, (), ("create", "zz", 2), ([],)])
    return draw_command(draw, model)


class ExampleTest(unittest.TestCase):
    def test_example(self):
        registry = Registry()
        self.assertIs(registry.create("main", 2, 2), None)
        self.assertEqual(registry.request("main", {"a": 2, "b": 2}, {}), 0)
        self.assertEqual(registry.request("main", {"c": 1}, {"a": 4, "b": 4}), 0)
        self.assertEqual(str(registry.book("main").words()), "{'a': '00', 'b': '01', 'c': '1'}")
        self.assertEqual(registry.log(), ["create", "done", "request", "done", "request", "done"])


class ModelTest(unittest.TestCase):
    def same(self, registry, model, command):
        before = snapshot(command)
        try:
            wanted = model.run(command)
        except CodeError as error:
            found = caught(self, type(error), run, registry, command)
            self.assertEqual(getattr(found, "level", None), getattr(error, "level", None))
            failed = True
        else:
            self.assertEqual(run(registry, command), wanted)
            failed = False
        self.assertEqual(snapshot(command), before)
        self.assertEqual(shelf(registry), model.shelf())
        self.assertEqual(registry.log(), model.log)
        return failed

    def test_commands_one_after_another(self):
        failures = 0
        for seed in range(12):
            draw, registry, model = Random(seed), Registry(), Model()
            for _ in range(130):
                failures += self.same(registry, model, draw_command(draw, model))
        self.assertTrue(300 < failures < 1100, failures)

    def test_commands_and_batches(self):
        failures, batches = 0, 0
        for seed in range(100, 112):
            draw, registry, model = Random(seed), Registry(), Model()
            for _ in range(60):
                if draw.randrange(2):
                    self.same(registry, model, draw_command(draw, model))
                else:
                    items = [draw_item(draw, model) for _ in range(draw.randrange(5))]
                    failures += self.same(registry, model, ("batch", items))
                    batches += 1
        self.assertTrue(50 < failures < batches - 50, (failures, batches))

    def test_copies_in_turns(self):
        for seed in range(200, 206):
            draw = Random(seed)
            pairs = [(Registry(), Model())]
            for _ in range(120):
                registry, model = draw.choice(pairs)
                if draw.randrange(12) == 0 and len(pairs) < 5:
                    twin = Model()
                    twin.books, twin.marks = model.copied(model.books), dict(model.marks)
                    pairs.append((registry.copy(), twin))
                self.same(registry, model, draw_command(draw, model))
                for other, its_model in pairs:
                    self.assertEqual(shelf(other), its_model.shelf())
                    self.assertEqual(other.log(), its_model.log)


class CommandTest(unittest.TestCase):
    def test_create(self):
        for radix, depth in product(range(-1, 7), range(-1, 9)):
            registry = Registry()
            if 2 <= radix <= 4 and 1 <= depth <= 6:
                self.assertIs(registry.create("abcdefgh", radix, depth), None)
                self.assertEqual(registry.book("abcdefgh"), Codebook(radix, depth, {}))
                self.assertEqual(registry.spent("abcdefgh"), 0)
            else:
                caught(self, InvalidCodebook, registry.create, "a", radix, depth)
                self.assertEqual(registry.names(), [])

    def test_create_with_other_things(self):
        registry = example()
        before = shelf(registry)
        for thing in NO_NAMES:
            caught(self, InvalidName, registry.create, thing, 2, 2)
            caught(self, InvalidName, registry.create, thing, 5, None)
        for thing in ODD_THINGS + EMPTY_THINGS + ("2", (2,), [2]):
            if thing not in (2, 3) or isinstance(thing, bool):
                caught(self, InvalidCodebook, registry.create, "other", thing, 2)
            if thing not in (1, 2, 3) or isinstance(thing, bool):
                caught(self, InvalidCodebook, registry.create, "other", 2, thing)
            caught(self, DuplicateName, registry.create, "main", thing, thing)
        self.assertEqual(shelf(registry), before)

    def test_request(self):
        registry = Registry()
        registry.create("main", 2, 3)
        self.assertEqual(registry.request("main", {"a": 3}, {}), 0)
        registry.reserve("main", "1")
        self.assertEqual(registry.request("main", {"b": 2, "c": 3}, {}), 0)
        self.assertEqual(registry.book("main").words(), {"a": "000", "b": "01", "c": "001"})
        registry.release("main", "1")
        self.assertEqual(registry.request("main", {"a": 1}, {"b": 7}), 0)
        self.assertEqual(registry.request("main", {"a": 3, "d": 1}, {"b": 7, "c": 900}), 0)
        self.assertEqual(registry.book("main").words(), {"a": "000", "b": "01", "c": "001", "d": "1"})

    def test_amounts_spent(self):
        registry = Registry()
        for name in ("main", "other"):
            registry.create(name, 2, 3)
            registry.request(name, {"a": 3}, {})
            registry.reserve(name, "001")
            registry.reserve(name, "01")
            registry.request(name, {"b": 3}, {})
            registry.release(name, "001")
            registry.release(name, "01")
            self.assertEqual(registry.book(name).words(), {"a": "000", "b": "100"})
        self.assertEqual(registry.request("main", {"z": 1}, {"a": 3, "b": 4}), 3)
        self.assertEqual((registry.spent("main"), registry.spent("other")), (3, 0))
        self.assertEqual(registry.request("other", {"z": 1}, {"a": 999, "b": 998}), 998)
        self.assertEqual(registry.request("main", {"z": 3}, {}), 0)
        self.assertEqual(registry.request("main", {"y": 1}, {"a": 9, "b": 9, "z": 20}), 18)
        self.assertEqual((registry.spent("main"), registry.spent("other")), (21, 998))
        registry.remove("main", "a")
        self.assertEqual(registry.spent("main"), 21)
        registry.drop("main")
        registry.create("main", 2, 3)
        self.assertEqual((registry.spent("main"), registry.spent("other")), (0, 998))

    def test_how_many_names_are_priced(self):
        registry, twelve = full_registry(12)
        caught(self, TooLarge, registry.request, "full", {"z": 4}, full_registry(13)[1])
        self.assertEqual(caught(self, NoPlan, registry.request, "full", {"z": 4}, twelve).level, 4)
        self.assertEqual(registry.request("full", {}, twelve), 0)
        first = list(twelve)[0]
        self.assertEqual(registry.request("full", {first: 4}, full_registry(13)[1]), 0)
        self.assertEqual(registry.spent("full"), 0)

    def test_request_with_other_things(self):
        registry = example()
        before = shelf(registry)
        for thing in NO_NAMES + ["a", "mai", "mainx"]:
            caught(self, UnknownName, registry.request, thing, {"a": 1}, {})
            caught(self, UnknownName, registry.request, thing, None, None)
        for request in wrong_requests(2):
            caught(self, InvalidRequest, registry.request, "main", request, {})
            caught(self, InvalidRequest, registry.request, "main", request, None)
        for prices in WRONG_PRICES:
            caught(self, InvalidPrices, registry.request, "main", {"z": 1}, prices)
        self.assertEqual(caught(self, NoPlan, registry.request, "main", {"z": 1}, {}).level, 1)
        self.assertEqual(caught(self, NoPlan, registry.request, "main", {"z": 2}, {"a": 1, "b": 1, "c": 1}).level, 2)
        self.assertEqual(shelf(registry), before)

    def test_order_of_errors_of_requests(self):
        registry, thirteen = full_registry(13)
        for request, prices in product((None, {"z": 5}, {"z": True}, []), (None, {"a": 0}, thirteen)):
            caught(self, UnknownName, registry.request, "mains", request, prices)
            caught(self, InvalidRequest, registry.request, "full", request, prices)
        caught(self, InvalidPrices, registry.request, "full", {"z": 1}, {**thirteen, "a": 0})
        caught(self, TooLarge, registry.request, "full", {"z": 1}, thirteen)
        self.assertEqual(caught(self, NoPlan, registry.request, "full", {"z": 1}, {}).level, 1)

    def test_remove(self):
        registry = example()
        registry.create("other", 2, 2)
        self.assertIs(registry.remove("main", "b"), None)
        self.assertEqual(registry.book("main"), Codebook(2, 2, {"a": "00", "c": "1"}))
        for thing in NO_NAMES + ["b", "z", "mains"]:
            caught(self, UnknownName, registry.remove, "main", thing)
            caught(self, UnknownName, registry.remove, thing, "a")
            caught(self, UnknownName, registry.remove, thing, thing)
        caught(self, UnknownName, registry.remove, "other", "a")
        caught(self, UnknownName, registry.remove, "main", "main")
        registry.reserve("main", "01")
        registry.remove("main", "a")
        registry.remove("main", "c")
        self.assertEqual(registry.book("main"), Codebook(2, 2, {}, ["01"]))

    def test_reserve(self):
        for radix, depth in ((2, 1), (2, 3), (3, 2), (4, 2)):
            for node in by_words.all_nodes(radix, depth + 1) + [str(radix), "0" + str(radix)]:
                registry = Registry()
                registry.create("main", radix, depth)
                registry.request("main", {"a": depth}, {})
                if node in by_words.all_nodes(radix, depth) and by_words.is_free(registry.book("main"), node):
                    self.assertIs(registry.reserve("main", node), None)
                    self.assertEqual(registry.book("main").reserved(), (node,))
                    caught(self, NotFree, registry.reserve, "main", node)
                    caught(self, NotFree, registry.reserve, "main", node + "0")
                else:
                    caught(self, NotFree, registry.reserve, "main", node)
                    self.assertEqual(registry.book("main").reserved(), ())

    def test_reserve_other_things(self):
        registry = Registry()
        registry.create("main", 2, 2)
        for thing in ODD_THINGS + EMPTY_THINGS + ("2", "a", ["0"], ("0",), {"0": "0"}, "000", "0000000"):
            caught(self, NotFree, registry.reserve, "main", thing)
            caught(self, UnknownName, registry.reserve, "other", thing)
        for thing in NO_NAMES:
            caught(self, UnknownName, registry.reserve, thing, "0")
        self.assertEqual(registry.book("main"), Codebook(2, 2, {}))

    def test_reserve_below_and_above(self):
        registry = Registry()
        registry.create("main", 2, 3)
        registry.reserve("main", "010")
        for node in ("0", "01", "010"):
            caught(self, NotFree, registry.reserve, "main", node)
        for node in ("1", "00", "011"):
            registry.reserve("main", node)
        self.assertEqual(registry.book("main").reserved(), ("00", "010", "011", "1"))
        caught(self, NotFree, registry.reserve, "main", "1")
        self.assertEqual(caught(self, NoPlan, registry.request, "main", {"a": 3}, {}).level, 3)

    def test_release(self):
        registry = Registry()
        registry.create("main", 2, 3)
        registry.request("main", {"a": 3}, {})
        for node in ("1", "01"):
            registry.reserve("main", node)
        for thing in ODD_THINGS + EMPTY_THINGS + ("0", "000", "10", "11", "010", "a", ["1"], ("1",), {"1": "1"}):
            caught(self, NotReserved, registry.release, "main", thing)
            caught(self, UnknownName, registry.release, "other", thing)
        for thing in NO_NAMES:
            caught(self, UnknownName, registry.release, thing, "1")
        self.assertIs(registry.release("main", "1"), None)
        self.assertEqual(registry.book("main"), Codebook(2, 3, {"a": "000"}, ["01"]))
        caught(self, NotReserved, registry.release, "main", "1")
        registry.release("main", "01")
        self.assertEqual(registry.book("main"), Codebook(2, 3, {"a": "000"}))

    def test_drop(self):
        registry = example()
        registry.create("other", 3, 1)
        self.assertIs(registry.drop("main"), None)
        self.assertEqual(registry.names(), ["other"])
        for thing in NO_NAMES + ["main"]:
            caught(self, UnknownName, registry.drop, thing)
        registry.create("main", 4, 6)
        self.assertEqual((registry.book("main"), registry.spent("main")), (Codebook(4, 6, {}), 0))


class MarkTest(unittest.TestCase):
    def test_back(self):
        registry = example()
        registry.create("lost", 3, 3)
        before = shelf(registry)
        self.assertIs(registry.mark("here"), None)
        registry.drop("lost")
        registry.create("new", 2, 1)
        registry.remove("main", "a")
        registry.reserve("main", "00")
        self.assertEqual(registry.names(), ["main", "new"])
        self.assertIs(registry.back("here"), None)
        self.assertEqual(shelf(registry), before)
        caught(self, UnknownName, registry.book, "new")
        registry.create("new", 2, 1)
        registry.back("here")
        self.assertEqual(shelf(registry), before)

    def test_marks_stay(self):
        registry = Registry()
        registry.mark("none")
        registry.create("a", 2, 1)
        registry.mark("one")
        registry.create("b", 2, 1)
        registry.mark("two")
        for label, names in (("none", []), ("two", ["a", "b"]), ("one", ["a"]), ("one", ["a"]), ("two", ["a", "b"]),
                             ("none", []), ("none", []), ("one", ["a"])):
            registry.back(label)
            self.assertEqual(registry.names(), names)
        for label in ("none", "one", "two"):
            caught(self, DuplicateName, registry.mark, label)

    def test_amounts_are_restored(self):
        registry = Registry()
        registry.create("main", 2, 3)
        registry.mark("start")
        registry.request("main", {"a": 3}, {})
        registry.reserve("main", "001")
        registry.reserve("main", "01")
        registry.request("main", {"b": 3}, {})
        registry.release("main", "001")
        registry.release("main", "01")
        registry.mark("before")
        registry.request("main", {"z": 1}, {"a": 3, "b": 4})
        registry.mark("behind")
        self.assertEqual(registry.spent("main"), 3)
        for label, spent, size in (("before", 0, 2), ("behind", 3, 3), ("start", 0, 0), ("behind", 3, 3)):
            registry.back(label)
            self.assertEqual((registry.spent("main"), len(registry.book("main"))), (spent, size))
        registry.drop("main")
        registry.create("main", 2, 3)
        self.assertEqual(registry.spent("main"), 0)
        registry.back("behind")
        self.assertEqual(registry.spent("main"), 3)

    def test_what_comes_later_does_not_change_a_mark(self):
        registry = example()
        registry.mark("here")
        before = shelf(registry)
        for _ in range(3):
            registry.request("main", {"c": 2}, {})
            registry.remove("main", "a")
            registry.create("new", 2, 2)
            registry.request("new", {"a": 1}, {})
            registry.back("here")
            self.assertEqual(shelf(registry), before)

    def test_labels_and_names_are_separate(self):
        registry = example()
        registry.mark("main")
        registry.create("here", 2, 1)
        registry.mark("here")
        caught(self, DuplicateName, registry.mark, "main")
        caught(self, DuplicateName, registry.create, "main", 2, 2)
        caught(self, UnknownMark, registry.back, "other")
        registry.create("other", 2, 1)
        caught(self, UnknownMark, registry.back, "other")
        registry.drop("main")
        registry.back("main")
        self.assertEqual(registry.names(), ["main"])
        registry.back("here")
        self.assertEqual(registry.names(), ["here", "main"])

    def test_other_labels(self):
        registry = example()
        registry.mark("here")
        before = shelf(registry)
        for thing in NO_NAMES:
            caught(self, InvalidName, registry.mark, thing)
            caught(self, UnknownMark, registry.back, thing)
        for label in ("main", "her", "heres", "a"):
            caught(self, UnknownMark, registry.back, label)
        self.assertEqual(shelf(registry), before)
        self.assertIs(registry.mark("abcdefgh"), None)


class BatchTest(unittest.TestCase):
    def failed(self, registry, error, commands, entries):
        """A batch fails, changes nothing and has these entries between its own two."""
        before, log = shelf(registry), registry.log()
        found = caught(self, error, registry.batch, commands)
        self.assertEqual(shelf(registry), before)
        self.assertEqual(registry.log(), [*log, "batch", *entries, "failed"])
        return found

    def test_results(self):
        registry = Registry()
        self.assertEqual(registry.batch([]), [])
        self.assertEqual(registry.batch([
            ("create", "main", 2, 3), ("request", "main", {"a": 3}, {}), ("reserve", "main", "001"),
            ("reserve", "main", "01"), ("request", "main", {"b": 3}, {}), ("release", "main", "001"),
            ("release", "main", "01"), ("mark", "here"), ("request", "main", {"z": 1}, {"a": 3, "b": 4}),
            ("remove", "main", "z"), ("create", "other", 2, 1), ("drop", "other"),
        ]), [None, 0, None, None, 0, None, None, None, 3, None, None, None])
        self.assertEqual(registry.spent("main"), 3)
        self.assertEqual(registry.batch([("back", "here")]), [None])
        self.assertEqual(registry.spent("main"), 0)
        self.assertEqual(registry.log()[:6], ["batch", "done", "batch", "create", "done", "request"])
        self.assertEqual(registry.log()[-5:], ["done", "batch", "back", "done", "done"])

    def test_log_of_a_batch(self):
        registry = Registry()
        registry.batch([("create", "a", 2, 1), ("drop", "a")])
        self.assertEqual(registry.log(), ["batch", "create", "done", "drop", "done", "done"])

    def test_first_middle_and_last_command_fails(self):
        good = [("create", "x", 2, 1), ("request", "x", {"a": 1}, {}), ("remove", "main", "c"), ("mark", "m"),
                ("drop", "main")]
        entries = [[command[0], "done"] for command in good]
        for at in range(len(good) + 1):
            for bad, error, entry in (
                (("drop", "none"), UnknownName, ["drop", "failed"]), (("back", "none"), UnknownMark, ["back", "failed"]),
                (("create", "X", 2, 1), InvalidName, ["create", "failed"]), (("names",), InvalidCommand, []),
                (("batch", []), InvalidCommand, []), (None, InvalidCommand, []), (("drop",), InvalidCommand, []),
            ):
                done = sum(entries[:at], [])
                registry = example()
                self.failed(registry, error, [*good[:at], bad, *good[at:]], [*done, *entry])
                # Not even the mark is left.
                caught(self, UnknownMark, registry.back, "m")
                self.assertIs(registry.mark("m"), None)
                self.assertEqual(registry.batch([good[0]]), [None])

    def test_level_of_the_error(self):
        registry = example()
        error = self.failed(registry, NoPlan, [("remove", "main", "a"), ("request", "main", {"z": 1}, {})],
                            ["remove", "done", "request", "failed"])
        self.assertEqual(error.level, 1)
        error = self.failed(registry, NoPlan, [("request", "main", {"z": 2}, {"a": 1, "b": 1, "c": 1})],
                            ["request", "failed"])
        self.assertEqual(error.level, 2)

    def test_a_mark_that_is_restored_in_a_batch_that_fails(self):
        registry = example()
        registry.mark("here")
        registry.drop("main")
        registry.create("other", 2, 1)
        self.failed(registry, UnknownMark, [("back", "here"), ("remove", "main", "a"), ("back", "there")],
                    ["back", "done", "remove", "done", "back", "failed"])
        self.assertEqual(registry.names(), ["other"])
        registry.back("here")
        self.assertEqual(len(registry.book("main")), 3)

    def test_arguments_that_are_not_lists(self):
        registry = example()
        for thing in [*ODD_THINGS, (), {}, "", (("drop", "main"),), ("drop", "main"), {0: ("drop", "main")}, "drop"]:
            if not isinstance(thing, list):
                self.failed(registry, InvalidCommand, thing, [])

    def test_items_that_are_not_commands(self):
        registry = example()
        items = [["drop", "main"], ("Drop", "main"), ("drop", "main", 1), ("drop", ("main",), ()), "drop", ("",),
                 ("batch",), ("batch", []), ("batch", [("drop", "main")]), (("drop", "main"),), ("_run", "drop", "main")]
        items += [(query,) for query in QUERIES] + [(query, "main") for query in QUERIES]
        items += [("__init__",), ("done",), ("failed",), (None, "main"), (0, "main"), (True,), ((), "main"), ([], "main")]
        items += [({}, "main"), ({"drop": 1}, "main"), ("drop main",)]
        for command, count in PARAMETERS.items():
            for other in range(6):
                if other != count:
                    items.append((command, *["main"] * other))
        for item in [*items, *ODD_THINGS, *EMPTY_THINGS]:
            self.failed(registry, InvalidCommand, [item], [])
            self.failed(registry, InvalidCommand, [("remove", "main", "a"), item, ("drop", "none")], ["remove", "done"])
            self.failed(registry, UnknownName, [("drop", "none"), item], ["drop", "failed"])

    def test_things_in_each_place_of_a_command(self):
        registry = example()
        registry.mark("here")
        for thing in NO_NAMES:
            for command in (
                ("create", thing, 2, 2), ("request", thing, {}, {}), ("remove", thing, "a"), ("remove", "main", thing),
                ("reserve", thing, "0"), ("release", thing, "0"), ("drop", thing), ("mark", thing), ("back", thing),
                ("create", "x", thing, 7), ("release", "main", thing), ("request", "main", thing, {"A": 1}),
            ):
                with self.assertRaises(CodeError) as context:
                    run(registry, command)
                self.failed(registry, type(context.exception), [command], [command[0], "failed"])

    def test_commands_are_left_alone(self):
        registry = Registry()
        request, prices = {"a": 1}, {"b": 2}
        commands = [("create", "main", 2, 1), ("request", "main", request, prices)]
        results = registry.batch(commands)
        self.assertEqual(commands, [("create", "main", 2, 1), ("request", "main", {"a": 1}, {"b": 2})])
        request["b"] = 1
        commands.clear()
        results.clear()
        self.assertEqual(registry.book("main").words(), {"a": "0"})


class QueryTest(unittest.TestCase):
    def test_nothing_at_all(self):
        registry = Registry()
        self.assertEqual((registry.names(), registry.log()), ([], []))
        caught(self, UnknownName, registry.book, "main")
        caught(self, UnknownName, registry.spent, "main")
        self.assertEqual(registry.log(), [])

    def test_names_ascend(self):
        registry = Registry()
        for name in ("m", "b", "zz", "a", "ab", "aa"):
            registry.create(name, 2, 1)
        self.assertEqual(registry.names(), ["a", "aa", "ab", "b", "m", "zz"])
        registry.names().clear()
        self.assertEqual(len(registry.names()), 6)

    def test_unknown_names(self):
        registry = example()
        registry.mark("here")
        log = registry.log()
        for thing in NO_NAMES + ["mai", "here", "a"]:
            caught(self, UnknownName, registry.book, thing)
            caught(self, UnknownName, registry.spent, thing)
        self.assertEqual(registry.log(), log)

    def test_queries_are_not_logged(self):
        registry = example()
        log = registry.log()
        for query in (registry.names, registry.log, registry.copy, lambda: registry.book("main"),
                      lambda: registry.spent("main")):
            query()
        self.assertEqual(registry.log(), log)

    def test_log_is_new(self):
        registry = example()
        registry.log().clear()
        self.assertEqual(len(registry.log()), 6)

    def test_log_of_failed_commands(self):
        registry = Registry()
        for command in (("create", "", 2, 2), ("request", "a", {}, {}), ("remove", "a", "b"), ("reserve", "a", "0"),
                        ("release", "a", "0"), ("drop", "a"), ("mark", ""), ("back", "a"), ("batch", None)):
            with self.assertRaises(CodeError):
                run(registry, command)
            self.assertEqual(registry.log()[-2:], [command[0], "failed"])
        self.assertEqual(len(registry.log()), 18)
        registry.mark("here")
        registry.back("here")
        self.assertEqual(registry.log()[-4:], ["mark", "done", "back", "done"])
        self.assertEqual(len(registry.log()), 22)

    def test_copy(self):
        registry = example()
        registry.mark("here")
        twin = registry.copy()
        self.assertIs(type(twin), Registry)
        self.assertEqual((shelf(twin), twin.log()), (shelf(registry), []))
        twin.drop("main")
        self.assertEqual(registry.names(), ["main"])
        registry.create("other", 2, 1)
        registry.mark("there")
        self.assertEqual(twin.names(), [])
        caught(self, UnknownMark, twin.back, "there")
        twin.back("here")
        self.assertEqual(twin.names(), ["main"])
        caught(self, DuplicateName, twin.mark, "here")
        twin.mark("own")
        caught(self, UnknownMark, registry.back, "own")
        self.assertEqual(twin.log(), ["drop", "done", "back", "failed", "back", "done", "mark", "failed", "mark", "done"])

    def test_by_name(self):
        registry = Registry()
        registry.create(depth=2, radix=3, name="main")
        self.assertEqual(registry.request(prices={}, request={"a": 1}, name="main"), 0)
        registry.reserve(string="1", name="main")
        registry.release(string="1", name="main")
        registry.remove(word="a", name="main")
        registry.mark(label="here")
        registry.drop(name="main")
        registry.back(label="here")
        self.assertEqual(registry.batch(commands=[("drop", "main")]), [None])
        registry.back("here")
        self.assertEqual((registry.book(name="main"), registry.spent(name="main")), (Codebook(3, 2, {}), 0))


if __name__ == "__main__":
    unittest.main()
