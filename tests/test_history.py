"""Versions and messages: [2], [11] (fourth and last item), [31], [32]."""

import unittest
from itertools import permutations, product
from random import Random

from keptcode.cheapest import cheapest
from keptcode.codebooks import Codebook
from keptcode.coding import decode, encode
from keptcode.errors import (
    DecodeError, InvalidMessage, InvalidPrices, InvalidRequest, NoPlan, TooLarge, UnknownName, UnknownVersion,
)
from keptcode.history import History
from keptcode.plans import apply_plan
from tests import by_words, drawn
from tests.things import EMPTY_THINGS, ODD_THINGS, WRONG_NAMES, WRONG_PRICES, caught, full_book, wrong_requests


def start():
    return Codebook(2, 3, {"a": "000", "b": "010", "c": "100"})


def example():
    history = History(start())
    history.change({"d": 1}, {"a": 1, "b": 1, "c": 3})
    return history


def state(history):
    """All that can be seen of a history."""
    books = [history.book(version) for version in range(len(history))]
    return [(book.radix, book.depth, book.words(), book.reserved()) for book in books], history.spent()


# None of these is a version, whatever the number of versions.
NO_VERSIONS = [thing for thing in ODD_THINGS + EMPTY_THINGS if thing not in (0, 1, 2, 3) or isinstance(thing, bool)]
NO_VERSIONS += ["0", (0,), [0], {0: 0}, -2, 10 ** 6]


class ExampleTest(unittest.TestCase):
    def test_example(self):
        history = History(start())
        self.assertEqual(history.change({"d": 1}, {"a": 1, "b": 1, "c": 3}), 2)
        self.assertEqual(history.send(["d", "c"]), (1, "0100"))
        self.assertEqual(history.receive((0, "100000")), ["c", "a"])
        self.assertEqual(history.stable(0, 1), ["c"])


class VersionTest(unittest.TestCase):
    def test_first_version(self):
        for book in (start(), Codebook(4, 6, {}), Codebook(3, 2, {}, ("0",)), full_book(2, 3)):
            history = History(book)
            self.assertEqual((len(history), history.spent()), (1, 0))
            self.assertEqual([history.book(), history.book(0), history.book(None)], [book] * 3)
            caught(self, UnknownVersion, history.book, 1)

    def test_versions_given_and_left_out(self):
        history = example()
        new = Codebook(2, 3, {"a": "101", "b": "110", "c": "100", "d": "0"})
        self.assertEqual(len(history), 2)
        self.assertEqual([history.book(0), history.book(1)], [start(), new])
        self.assertEqual([history.book(), history.book(None), history.book(version=None)], [new] * 3)
        self.assertEqual([history.book(version=0), history.book(version=1)], [start(), new])
        history.change({}, {})
        self.assertEqual((len(history), history.book(2), history.book()), (3, new, new))

    def test_later_versions_leave_earlier_ones_alone(self):
        history = example()
        before = state(history)
        history.change({"a": 2, "d": 3, "z": 2}, {"b": 5, "c": 6})
        history.change({}, {"a": 1})
        after = state(history)
        self.assertEqual(after[0][:2], before[0])
        self.assertEqual(len(after[0]), 4)

    def test_unknown_versions(self):
        history = example()
        before = state(history)
        for version in [*NO_VERSIONS, 2, 3]:
            if version is not None:
                caught(self, UnknownVersion, history.book, version)
                caught(self, UnknownVersion, history.send, ["d"], version=version)
            caught(self, UnknownVersion, history.stable, version, 0)
            caught(self, UnknownVersion, history.stable, 1, version)
            caught(self, UnknownVersion, history.stable, version, version)
            caught(self, UnknownVersion, history.receive, (version, "0"))
        self.assertEqual(state(history), before)

    def test_number_of_versions(self):
        history = History(start())
        for count in range(1, 6):
            self.assertEqual(len(history), count)
            for version in range(-3, 9):
                if 0 <= version < count:
                    self.assertEqual(history.book(version), start())
                    self.assertEqual(history.receive((version, "100")), ["c"])
                else:
                    caught(self, UnknownVersion, history.book, version)
                    caught(self, UnknownVersion, history.receive, (version, "100"))
            history.change({}, {})


class ChangeTest(unittest.TestCase):
    def agrees(self, history, request, prices):
        """Change a history; say whether there was a plan."""
        book, before = history.book(), state(history)
        wanted = by_words.cheapest_plans(book, request, prices)
        if wanted is None:
            error = caught(self, NoPlan, history.change, request, prices)
            self.assertEqual(error.level, by_words.no_plan_level(book, request, prices))
            self.assertEqual(state(history), before)
            return False
        price, plans = wanted
        self.assertEqual(history.change(request, prices), price)
        words = [{**by_words.others(book, request), **plan} for plan in plans]
        after = state(history)
        self.assertEqual(after[0][:-1], before[0])
        self.assertEqual(after[1], before[1] + price)
        self.assertIn(history.book().words(), words)
        self.assertEqual(list(history.book().words()), sorted(history.book().words()))
        self.assertEqual(history.book(), Codebook(book.radix, book.depth, history.book().words(), book.reserved()))
        return True

    def test_drawn_changes(self):
        draw = Random(40)
        outcomes = []
        for radix, depth in ((2, 3), (2, 4), (2, 6), (3, 2), (3, 4), (4, 2), (4, 5)):
            for _ in range(4):
                history = History(drawn.book(draw, radix, depth, 7))
                for _ in range(9):
                    names = list(history.book().words())
                    request = {name: draw.randint(1, depth) for name in draw.sample([*names, *"xyz"], 2)}
                    prices = {name: draw.randint(1, 9) for name in draw.sample(names, min(len(names), 8))}
                    outcomes.append(self.agrees(history, request, prices))
        self.assertTrue(60 < sum(outcomes) < len(outcomes) - 60)

    def test_a_plan_as_cheapest_returns_it(self):
        for request, prices in (({"d": 1}, {"a": 1, "b": 1, "c": 3}), ({"d": 2}, {}), ({}, {"a": 1}), ({"a": 1}, {"b": 2})):
            history = History(start())
            price, plan = cheapest(start(), request, prices)
            self.assertEqual(history.change(request, prices), price)
            self.assertEqual(history.book(), apply_plan(start(), request, prices, plan))

    def test_the_latest_version_counts(self):
        history = example()
        caught(self, NoPlan, history.change, {"e": 1}, {})
        self.assertEqual(history.change({"d": 2}, {}), 0)
        self.assertEqual(history.change({"e": 2}, {}), 0)
        self.assertEqual(history.book().words(), {"a": "101", "b": "110", "c": "100", "d": "00", "e": "01"})
        self.assertEqual((len(history), history.spent()), (4, 2))

    def test_spent_is_the_sum(self):
        history = example()
        self.assertEqual(history.spent(), 2)
        history.change({"d": 2}, {})
        self.assertEqual(history.spent(), 2)
        history = History(Codebook(2, 3, {"a": "000", "b": "100"}))
        self.assertEqual(history.change({"z": 1}, {"a": 999, "b": 999}), 999)
        self.assertEqual(history.change({"z": 3}, {"a": 999, "b": 999}), 0)
        self.assertEqual(history.change({"y": 1}, {"z": 30, "a": 40, "b": 50}), 30)
        self.assertEqual((history.spent(), len(history)), (1029, 4))

    def test_levels_of_no_plan(self):
        book = Codebook(2, 3, {"a": "00", "b": "010"})
        for request, prices, level in (
            ({"x": 1, "y": 1}, {}, 1), ({"x": 1, "y": 1}, {"a": 1}, 1), ({"x": 1, "y": 1}, {"a": 1, "b": 1}, 2),
            ({"x": 1, "y": 1, "b": 3}, {"a": 1}, 2), ({"x": 1, "y": 1, "a": 3}, {"a": 1, "b": 3}, 3),
            ({"x": 2, "y": 2, "z": 2}, {"a": 1}, 2), ({"x": 2, "y": 2, "z": 2}, {"a": 1, "b": 1}, 3),
            ({"x": 1, "y": 3, "z": 3}, {"a": 1, "b": 1}, 3),
        ):
            self.assertEqual(by_words.no_plan_level(book, request, prices), level)
            history = History(book)
            self.assertEqual(caught(self, NoPlan, history.change, request, prices).level, level)
            self.assertEqual((len(history), history.spent(), history.book()), (1, 0, book))

    def test_wrong_requests_and_prices(self):
        history = example()
        before = state(history)
        for request in wrong_requests(3):
            caught(self, InvalidRequest, history.change, request, {})
        for prices in WRONG_PRICES:
            caught(self, InvalidPrices, history.change, {"e": 3}, prices)
        self.assertEqual(state(history), before)

    def test_order_of_errors(self):
        book = full_book(2, 4)
        history = History(book)
        many = {name: 1 for name in book.words()}
        for request, prices in product((None, {"z": 5}, {"z": True}, [], {1: 1}), (None, {"a": 0}, many, {})):
            caught(self, InvalidRequest, history.change, request, prices)
        for prices in (None, {"a": 0}, {**many, "a": 1000}, {**many, "A": 1}):
            caught(self, InvalidPrices, history.change, {"z": 1}, prices)
        caught(self, TooLarge, history.change, {"z": 1}, many)
        twelve = dict(list(many.items())[:12])
        self.assertEqual(caught(self, NoPlan, history.change, {"z": 1}, twelve).level, 4)
        self.assertEqual(caught(self, NoPlan, history.change, {"z": 1}, {}).level, 1)
        self.assertEqual(state(history), state(History(book)))

    def test_arguments_are_copied(self):
        history, request, prices = History(start()), {"d": 1}, {"a": 1, "b": 1, "c": 3}
        history.change(request, prices)
        self.assertEqual((request, prices), ({"d": 1}, {"a": 1, "b": 1, "c": 3}))
        request.clear()
        prices.clear()
        self.assertEqual(state(history), state(example()))
        history.book().words().clear()
        self.assertEqual(state(history), state(example()))

    def test_order_of_keys_does_not_matter(self):
        words = {"a": "000", "b": "010", "c": "100", "d": "110"}
        found = []
        for order in permutations(words):
            history = History(Codebook(2, 3, {name: words[name] for name in order}))
            history.change({"z": 1}, {name: 1 for name in order})
            found.append(state(history))
        self.assertTrue(all(one == found[0] for one in found))

    def test_by_name(self):
        history = History(book=start())
        self.assertEqual(history.change(prices={"a": 1, "b": 1, "c": 3}, request={"d": 1}), 2)
        self.assertEqual(history.stable(second=1, first=0), ["c"])
        self.assertEqual(history.receive(message=(1, "0")), ["d"])
        self.assertEqual(history.send(names=["a"], version=0), (0, "000"))


class StableTest(unittest.TestCase):
    def test_pairs_of_versions(self):
        history = example()
        history.change({"d": 2}, {})
        history.change({"a": 2, "e": 3}, {})
        books = [history.book(version).words() for version in range(4)]
        for first, second in product(range(4), repeat=2):
            wanted = sorted(name for name in books[first] if books[first][name] == books[second].get(name))
            found = history.stable(first, second)
            self.assertEqual(found, wanted)
            self.assertIs(type(found), list)
        self.assertEqual(history.stable(2, 2), ["a", "b", "c", "d"])
        self.assertEqual(history.stable(0, 0), ["a", "b", "c"])
        history.stable(0, 0).append("z")
        self.assertEqual(history.stable(0, 0), ["a", "b", "c"])

    def test_no_names(self):
        history = History(Codebook(2, 3, {}))
        self.assertEqual(history.stable(0, 0), [])
        history.change({"a": 1}, {})
        self.assertEqual([history.stable(0, 1), history.stable(1, 0), history.stable(1, 1)], [[], [], ["a"]])


class CopyTest(unittest.TestCase):
    def test_copies_in_turns(self):
        one = example()
        other = one.copy()
        self.assertIs(type(other), History)
        self.assertEqual(state(one), state(other))
        one.change({"d": 2}, {})
        self.assertEqual(state(other), state(example()))
        other.change({"d": 3}, {})
        other.change({"e": 3}, {})
        self.assertEqual((len(one), len(other)), (3, 4))
        self.assertEqual(one.book().codeword("d"), "00")
        self.assertEqual(other.book(2).codeword("d"), "000")
        third = other.copy()
        third.change({"z": 2}, {"d": 7, "e": 8})
        self.assertEqual((len(other), other.spent()), (4, 2))
        self.assertEqual((len(third), third.spent()), (5, 2))
        self.assertEqual(other.copy().spent(), 2)
        self.assertEqual(one.send(["d"]), (2, "00"))
        self.assertEqual(other.send(["d"]), (3, "000"))

    def test_copies_behind_errors(self):
        one = example()
        other = one.copy()
        caught(self, NoPlan, other.change, {"e": 1}, {})
        caught(self, UnknownVersion, other.book, 2)
        self.assertEqual(state(one), state(other))

    def test_spent_is_not_shared(self):
        one = History(Codebook(2, 3, {"a": "000", "b": "100"}))
        other = one.copy()
        self.assertEqual(other.change({"z": 1}, {"a": 6, "b": 7}), 6)
        self.assertEqual((one.spent(), other.spent(), other.copy().spent()), (0, 6, 6))


class MessageTest(unittest.TestCase):
    def test_send(self):
        history = example()
        self.assertEqual(history.send([]), (1, ""))
        self.assertEqual(history.send(()), (1, ""))
        self.assertEqual(history.send(("a", "b", "a"), version=0), (0, "000010000"))
        self.assertEqual(history.send(["a", "d"], version=1), (1, "1010"))
        self.assertEqual(history.send(["a", "d"], version=None), (1, "1010"))
        self.assertIs(type(history.send(["a"])), tuple)
        history.change({}, {})
        self.assertEqual(history.send(["d"]), (2, "0"))

    def test_version_is_passed_by_name_only(self):
        with self.assertRaises(TypeError):
            example().send(["a"], 0)

    def test_receive(self):
        history = example()
        self.assertEqual(history.receive((0, "")), [])
        self.assertEqual(history.receive((1, "0101110")), ["d", "a", "b"])
        self.assertEqual(history.receive((0, "010000")), ["b", "a"])

    def test_back_and_forth(self):
        draw = Random(41)
        history = example()
        history.change({"d": 2, "e": 2}, {})
        for _ in range(60):
            version = draw.randrange(3)
            names = [draw.choice(list(history.book(version).words())) for _ in range(draw.randrange(6))]
            message = history.send(names, version=version)
            self.assertEqual(message, (version, encode(history.book(version), names)))
            self.assertEqual(history.receive(message), names)

    def test_stable_names_mean_the_same(self):
        draw = Random(42)
        for radix, depth in ((2, 4), (3, 3), (4, 2)):
            history = History(drawn.book(draw, radix, depth, 9))
            for _ in range(20):
                names = list(history.book().words())
                request = {name: draw.randint(1, depth) for name in draw.sample([*names, "x", "y"], 1)}
                try:
                    history.change(request, {name: draw.randint(1, 9) for name in names[:5]})
                except NoPlan:
                    continue
                first = draw.randrange(len(history))
                second = len(history) - 1
                stable = history.stable(first, second)
                message = [name for name in stable for _ in range(draw.randrange(3))]
                sent = history.send(message, version=first)[1]
                self.assertEqual(history.send(message), (second, sent))
                self.assertEqual(history.receive((first, sent)), message)
                self.assertEqual(history.receive((second, sent)), message)

    def test_wrong_names(self):
        history = example()
        for thing in ODD_THINGS + ("", {}, "a", "ab", {"a": 1}):
            caught(self, UnknownName, history.send, thing)
            caught(self, UnknownName, history.send, thing, version=0)
            caught(self, UnknownVersion, history.send, thing, version=2)
        for name in WRONG_NAMES + ("e", "aa"):
            caught(self, UnknownName, history.send, [name])
            caught(self, UnknownName, history.send, ("a", name))
            caught(self, UnknownVersion, history.send, [name], version=-1)
        # "d" is not in the first version.
        caught(self, UnknownName, history.send, ["d"], version=0)
        self.assertEqual(state(history), state(example()))

    def test_wrong_messages(self):
        history = example()
        things = ODD_THINGS + EMPTY_THINGS + ((0, "0", 0), (0, "0", "0"), [0, "0"], {0: "0", 1: "0"}, "01", (1,), ("0",))
        for thing in things:
            if not (isinstance(thing, tuple) and len(thing) == 2):
                caught(self, InvalidMessage, history.receive, thing)
        caught(self, InvalidMessage, history.receive, ((0, "0"),))
        caught(self, InvalidMessage, history.receive, [1, "0"])

    def test_order_of_errors(self):
        history = example()
        for version in NO_VERSIONS + [2]:
            for digits in ("", "0", "x", None, 0, [], ["0"]):
                caught(self, UnknownVersion, history.receive, (version, digits))
                caught(self, InvalidMessage, history.receive, (version, digits, digits))
                caught(self, InvalidMessage, history.receive, [version, digits])
        caught(self, UnknownVersion, history.receive, ("0", 1))

    def test_digits_that_cannot_be_decoded(self):
        history = example()
        for version, digits, position in (
            (0, "0", 0), (0, "001", 0), (0, "000010001", 6), (0, "0000", 3), (0, "100x", 3), (1, "0111", 1),
            (1, "0001", 3), (1, "1", 0), (1, "0 ", 1), (1, "00\n", 2), (0, "1", 0), (1, "10010", 3),
        ):
            self.assertEqual(caught(self, DecodeError, history.receive, (version, digits)).position, position)
            self.assertEqual(caught(self, DecodeError, decode, history.book(version), digits).position, position)
        for digits in ODD_THINGS + EMPTY_THINGS:
            if not isinstance(digits, str):
                for version in (0, 1):
                    self.assertEqual(caught(self, DecodeError, history.receive, (version, digits)).position, 0)
        self.assertEqual(state(history), state(example()))


if __name__ == "__main__":
    unittest.main()
