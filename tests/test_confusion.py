"""Confusing strings and confusion tables: [2], [11] (fourth and fifth item), [36], [37], [38]."""

import unittest
from itertools import permutations, product
from random import Random

from keptcode.codebooks import Codebook
from keptcode.coding import decode, encode
from keptcode.confusion import check_table, confusing, confusion_table
from keptcode.errors import InvalidPair
from tests import by_rules, by_words, drawn
from tests.things import (
    EMPTY_THINGS, ODD_THINGS, WRONG_KEYS, WRONG_NAMES, caught, fresh, full_book, small_books, snapshot, strings_of,
)

SHAPES = list(product(range(2, 5), range(1, 7)))
NONE = ((), ())


def shared_example():
    """Two codebooks that move "a" and "b", but decode the same strings to the same names."""
    return Codebook(2, 3, {"a": "01", "b": "10"}), Codebook(2, 3, {"a": "0", "b": "110"})


def drawn_pair(draw, radix, depth):
    """Two codebooks, of which the second one differs from the first one in a few names."""
    first = drawn.book(draw, radix, depth, 6)
    words = dict(first.words())
    for name in draw.sample(list(words), min(len(words), draw.randrange(3))):
        del words[name]
    for name in draw.sample(["a", "b", "c", "z"], draw.randrange(3)):
        node = draw.choice(by_words.all_nodes(radix, depth))
        words.pop(name, None)
        if not any(by_words.conflict(node, word) for word in words.values()):
            words[name] = node
    return first, Codebook(radix, depth, words)


class ExampleTest(unittest.TestCase):
    def test_confusing(self):
        book = Codebook(2, 3, {"a": "0", "b": "100"})
        self.assertIs(confusing(book, Codebook(2, 3, {"a": "0", "b": "100", "c": "11"})), None)
        digits = confusing(Codebook(2, 2, {"a": "0"}), Codebook(2, 2, {"a": "1", "b": "0"}))
        self.assertEqual((set(digits), type(digits)), ({"0"}, str))

    def test_table(self):
        first, second = Codebook(2, 2, {"a": "0", "b": "10"}), Codebook(2, 2, {"a": "0", "b": "11"})
        found = confusion_table(first, second)
        self.assertEqual(found, {"0": NONE, "00": (("a",), ()), "010": None})
        self.assertIs(check_table(first, second, found), True)


class PairTest(unittest.TestCase):
    def judged(self, first, second, length=0):
        """Check all that is said of a pair; say whether it is confused."""
        digits = confusing(first, second)
        table = confusion_table(first, second)
        self.assertEqual(digits is None, table is not None, (first.words(), second.words()))
        if digits is not None:
            self.assertIs(type(digits), str)
            self.assertNotEqual(decode(first, digits), decode(second, digits))
            return True
        self.assertEqual(by_rules.confusing_strings(first, second, length), [])
        self.assertTrue(by_rules.is_table(first, second, table), (first.words(), second.words(), table))
        self.assertIs(check_table(first, second, table), True)
        self.assertEqual(set(table), by_rules.reachable(first, second))
        for state, value in table.items():
            self.assertEqual(value is None, "0" not in by_rules.reachable(first, second, state))
        return False

    def test_all_pairs_of_small_codebooks(self):
        count = 0
        for radix, depth, names in ((2, 1, "ab"), (3, 1, "ab"), (2, 2, "ab")):
            books = [Codebook(radix, depth, words) for words, reserved in small_books(radix, depth, names)
                     if not reserved]
            for first, second in product(books, books):
                count += 1
                confused = self.judged(first, second, 7 if depth == 2 else 3)
                # Strings that confuse codebooks of this size are short.
                self.assertEqual(confused, by_rules.confusing_strings(first, second, 8) != [])
        self.assertGreater(count, 500)

    def test_pairs_with_three_names(self):
        books = [Codebook(2, 3, dict(zip(order, nodes))) for nodes in
                 (("0", "10", "11"), ("00", "01", "1"), ("0", "10", "110"), ("000", "01", "1"), ("010", "011", "10"))
                 for order in permutations("abc")]
        confused = [self.judged(first, second, 9) for first, second in product(books, books)]
        self.assertTrue(0 < sum(confused) < len(confused), sum(confused))

    def test_drawn_pairs(self):
        draw = Random(61)
        for radix, depth in ((2, 2), (2, 3), (2, 4), (2, 6), (3, 2), (3, 3), (4, 2), (4, 3)):
            outcomes = [self.judged(*drawn_pair(draw, radix, depth), 4) for _ in range(60)]
            self.assertTrue(0 < sum(outcomes) < len(outcomes), (radix, depth))

    def test_drawn_pairs_of_few_words(self):
        draw = Random(62)
        live = 0
        for _ in range(400):
            first = drawn.nodes(draw, 2, 4, 3)
            second = drawn.nodes(draw, 2, 4, 3)
            books = Codebook(2, 4, dict(zip("abc", first))), Codebook(2, 4, dict(zip("abc", second)))
            if not self.judged(*books, 8):
                table = confusion_table(*books)
                live += any(value not in (None, NONE) for value in table.values())
        self.assertGreater(live, 20)

    def test_equal_codebooks(self):
        for radix, depth in SHAPES:
            for book in (Codebook(radix, depth, {}), Codebook(radix, depth, {"a": "0"}), full_book(radix, min(depth, 2))):
                self.assertFalse(self.judged(book, book, 3))
                self.assertIs(confusing(book, Codebook(radix, book.depth, book.words())), None)
        book = full_book(4, 6)
        self.assertIs(confusing(book, book), None)
        table = confusion_table(book, book)
        self.assertEqual(len(table), 4 ** 6 + 1)
        self.assertIs(check_table(book, book, table), True)

    def test_without_names(self):
        for radix, depth in SHAPES:
            empty = Codebook(radix, depth, {}, ("0",))
            book = Codebook(radix, depth, {"a": "0", "b": "1"})
            self.assertEqual(confusion_table(empty, empty), {"0": NONE})
            self.assertEqual(confusion_table(empty, book), {"0": NONE})
            self.assertEqual(confusion_table(book, empty), {"0": NONE, "00": None, "01": None})
            for first, second in ((empty, book), (book, empty), (empty, empty)):
                self.assertIs(confusing(first, second), None)
                self.assertFalse(self.judged(first, second, 2))

    def test_disjoint_codebooks(self):
        first, second = Codebook(2, 3, {"a": "00", "b": "010"}), Codebook(2, 3, {"a": "10", "b": "111"})
        self.assertFalse(self.judged(first, second, 8))
        self.assertEqual(confusion_table(first, second), {"0": NONE, "000": None, "0010": None})
        self.assertFalse(self.judged(second, first, 8))

    def test_confused_at_once(self):
        for radix, depth in SHAPES:
            self.assertTrue(self.judged(Codebook(radix, depth, {"a": "0"}), Codebook(radix, depth, {"b": "0"})))
            self.assertTrue(self.judged(Codebook(radix, depth, {"a": "0", "b": "1"}),
                                        Codebook(radix, depth, {"b": "0", "a": "1"})))
            word = str(radix - 1) * depth
            self.assertTrue(self.judged(Codebook(radix, depth, {"a": word}), Codebook(radix, depth, {"b": word})))

    def test_confused_after_many_digits(self):
        for one, other in product(range(1, 7), range(1, 7)):
            first, second = Codebook(2, 6, {"a": "0" * one}), Codebook(2, 6, {"a": "0" * other})
            self.assertEqual(self.judged(first, second, 30), one != other)
        first, second = Codebook(2, 6, {"a": "01010", "b": "1"}), Codebook(2, 6, {"a": "010", "b": "1001"})
        self.judged(first, second, 18)
        # All but the last names agree.
        first = Codebook(2, 6, {"a": "01", "b": "10", "c": "110", "d": "111"})
        second = Codebook(2, 6, {"a": "0", "b": "110", "c": "10", "e": "111"})
        self.judged(first, second, 12)

    def test_the_same_names_by_other_codewords(self):
        first, second = shared_example()
        self.assertEqual(decode(first, "0110"), decode(second, "0110"))
        self.assertEqual(confusion_table(first, second), {
            "0": NONE, "001": (("a",), ()), "01": NONE, "110": ((), ("b",)), "010": None,
        })
        self.assertEqual(confusion_table(second, first), {
            "0": NONE, "00": (("a",), ()), "11": NONE, "010": (("b",), ()), "0110": None,
        })
        self.assertFalse(self.judged(first, second, 14))
        self.assertFalse(self.judged(second, first, 14))

    def test_ahead_by_two_names(self):
        first = Codebook(4, 6, {"x": "0", "y": "1", "z": "23322"})
        second = Codebook(4, 3, {"x": "012", "y": "33", "z": "22"})
        self.assertEqual(decode(first, "0123322"), decode(second, "0123322"))
        self.assertEqual(confusion_table(first, second), {
            "0": NONE, "00": (("x",), ()), "112": NONE, "12": (("y",), ()), "03322": (("y", "z"), ()),
            "022": (("z",), ()), "01": None, "023322": None,
        })
        self.assertFalse(self.judged(first, second, 8))
        self.assertEqual(confusion_table(second, first)["13322"], ((), ("y", "z")))
        self.assertFalse(self.judged(second, first, 8))
        # The names are the same ones, but in another order.
        self.assertTrue(self.judged(first, Codebook(4, 3, {"x": "012", "z": "33", "y": "22"})))

    def test_depths_and_reserved_strings_do_not_matter(self):
        first, second = shared_example()
        deeper = Codebook(2, 6, second.words(), ["100", "1011"])
        self.assertEqual(confusion_table(first, deeper), confusion_table(first, second))
        self.assertIs(confusing(Codebook(2, 5, first.words(), ["000"]), deeper), None)
        self.assertTrue(self.judged(Codebook(3, 1, {"a": "2"}), Codebook(3, 6, {"a": "222222"}, ["0"])))

    def test_which_codebook_comes_first(self):
        first, second = Codebook(2, 2, {"a": "0", "b": "10"}), Codebook(2, 2, {"a": "0", "b": "11"})
        self.assertEqual(sorted(confusion_table(second, first)), ["0", "00", "011"])
        first, second = Codebook(2, 2, {"a": "0"}), Codebook(2, 2, {"a": "0", "b": "1"})
        self.assertEqual(confusion_table(first, second), {"0": NONE, "00": (("a",), ())})
        self.assertEqual(confusion_table(second, first), {"0": NONE, "00": (("a",), ()), "01": None})

    def test_messages_of_names_with_the_same_codeword(self):
        draw = Random(63)
        for _ in range(60):
            first, second = drawn_pair(draw, 2, 4)
            same = [name for name in first.words() if second.words().get(name) == first.codeword(name)]
            if same:
                names = [draw.choice(same) for _ in range(5)]
                digits = encode(first, names)
                self.assertEqual(encode(second, names), digits)
                self.assertEqual((decode(first, digits), decode(second, digits)), (names, names))

    def test_results_are_new_and_arguments_are_left_alone(self):
        first, second = shared_example()
        fresh(self, confusing, first, second)
        table = fresh(self, confusion_table, first, second)
        before = snapshot(table)
        fresh(self, check_table, first, second, table)
        self.assertEqual(snapshot(table), before)

    def test_order_of_keys_does_not_matter(self):
        words = {"a": "0", "b": "10", "c": "11"}
        other = Codebook(2, 3, {"a": "00", "c": "01", "b": "1"})
        wanted = confusing(Codebook(2, 2, words), other)
        for order in permutations(words):
            book = Codebook(2, 2, {name: words[name] for name in order})
            self.assertEqual(confusing(book, other), wanted)
            self.assertEqual(confusion_table(book, book), confusion_table(Codebook(2, 2, words), Codebook(2, 2, words)))

    def test_by_name(self):
        first, second = shared_example()
        self.assertIs(confusing(second=second, first=first), None)
        table = confusion_table(second=second, first=first)
        self.assertIs(check_table(thing=table, second=second, first=first), True)


class InvalidPairTest(unittest.TestCase):
    def test_radix(self):
        for one, other in product(SHAPES, SHAPES):
            first, second = Codebook(*one, {"a": "0"}), Codebook(*other, {"a": "0"})
            if one[0] == other[0]:
                self.assertIs(confusing(first, second), None)
            else:
                caught(self, InvalidPair, confusing, first, second)
                caught(self, InvalidPair, confusion_table, first, second)
                for thing in ({"0": NONE}, {}, None, 5, []):
                    caught(self, InvalidPair, check_table, first, second, thing)

    def test_without_names(self):
        caught(self, InvalidPair, confusing, Codebook(2, 3, {}), Codebook(3, 3, {}))
        caught(self, InvalidPair, confusion_table, Codebook(4, 3, {}), Codebook(3, 3, {}))


class CheckTest(unittest.TestCase):
    def judged(self, first, second, thing):
        wanted = by_rules.is_table(first, second, thing)
        self.assertIs(check_table(first, second, thing), wanted, (first.words(), second.words(), thing))
        return wanted

    def refused(self, first, second, thing):
        self.assertIs(fresh(self, check_table, first, second, thing), False, thing)

    def pairs(self, seed, count):
        draw = Random(seed)
        found = [shared_example()]
        while len(found) < count:
            pair = drawn_pair(draw, *draw.choice(((2, 2), (2, 3), (3, 2), (2, 4))))
            if draw.randrange(2):
                pair = tuple(Codebook(2, 3, dict(zip("abc", drawn.nodes(draw, 2, 3, 3)))) for _ in range(2))
            if confusing(*pair) is None and len(confusion_table(*pair)) > 2:
                found.append(pair)
        return draw, found

    def difference(self, draw):
        names = tuple(draw.choice(["a", "b", "z", "abcdefgh"]) for _ in range(draw.randrange(3)))
        return draw.choice([(names, ()), ((), names), None])

    def test_changed_tables(self):
        draw, pairs = self.pairs(71, 80)
        outcomes = []
        for first, second in pairs:
            table = confusion_table(first, second)
            states = [prefix + digits for prefix in "01" for digits in strings_of("0123"[:first.radix], 3)]
            for _ in range(25):
                changed = dict(table)
                for _ in range(draw.randint(1, 3)):
                    state = draw.choice(list(changed) if draw.randrange(3) and changed else states)
                    if draw.randrange(4) == 0:
                        changed.pop(state, None)
                    else:
                        changed[state] = self.difference(draw)
                outcomes.append(self.judged(first, second, changed))
        self.assertTrue(100 < sum(outcomes) < len(outcomes) - 100, sum(outcomes))

    def test_every_key_is_needed(self):
        for first, second in self.pairs(72, 40)[1]:
            table = confusion_table(first, second)
            for state in table:
                self.refused(first, second, {other: table[other] for other in table if other != state})
                for value in (None, (("zz",), ()), ((), ("zz",)), NONE, (("a",), ()), ((), ("b", "a"))):
                    self.judged(first, second, {**table, state: value})
            self.refused(first, second, {**table, "0": None})
            for name in ("a", "b", "z"):
                self.refused(first, second, {**table, "0": ((name,), ())})
                self.refused(first, second, {**table, "0": ((), (name,))})

    def test_any_order_of_keys(self):
        for first, second in self.pairs(73, 20)[1]:
            table = confusion_table(first, second)
            self.assertIs(check_table(first, second, {state: table[state] for state in sorted(table)[::-1]}), True)

    def test_none_where_a_difference_could_be(self):
        # The start is reached again from "00", so its value cannot be None.
        book = Codebook(2, 2, {"a": "0"})
        self.refused(book, book, {"0": NONE, "00": None})
        # Here it is not reached again, but the difference may be given all the same.
        first, second = Codebook(2, 2, {"a": "0", "b": "10"}), Codebook(2, 2, {"a": "0", "b": "11"})
        self.assertIs(check_table(first, second, {"0": NONE, "00": (("a",), ()), "010": (("b",), ())}), True)
        self.refused(first, second, {"0": NONE, "00": (("a",), ()), "010": (("a",), ())})
        self.refused(first, second, {"0": NONE, "00": (("a",), ()), "010": ((), ("b",))})

    def test_mismatches(self):
        first, second = Codebook(2, 3, {"a": "01"}), Codebook(2, 3, {"b": "0", "c": "10"})
        self.assertEqual(confusion_table(first, second), {"0": NONE, "001": None, "01": None, "10": None})
        table = {"0": NONE, "001": (("a",), ()), "01": None, "10": None}
        self.judged(first, second, table)
        for value in (None, NONE, (("a",), ()), ((), ("b",))):
            self.judged(first, second, {**table, "01": value})
            self.judged(first, second, {**table, "001": value})

    def test_further_keys(self):
        first, second = shared_example()
        table = confusion_table(first, second)
        names = (("zz", "abcdefgh"), ())
        # From these states no step is possible, or all steps lead to None.
        self.judged(first, second, {**table, "111": names})
        lone = Codebook(2, 2, {"a": "00"})
        other = Codebook(2, 2, {"a": "01"})
        table = confusion_table(lone, other)
        self.assertEqual(table, {"0": NONE, "000": None})
        for value in (None, NONE, names, ((), ("q",) * 50)):
            for state in ("01", "010", "0" + "1" * 40, "11", "110", "0" + "00" * 3):
                self.assertIs(check_table(lone, other, {**table, state: value}), True)
            self.refused(lone, other, {**table, "1": value})
            # This state has a step to the start.
            self.judged(lone, other, {**table, "100": value})
            self.judged(lone, other, {**table, "001": value})
            self.judged(lone, other, {**table, "1000": value, "10": value, "100": value})
        self.assertIs(check_table(lone, other, {**table, "001": (("a",), ())}), True)
        self.assertIs(check_table(lone, other, {**table, "100": (("a",), ())}), False)
        self.assertIs(check_table(lone, other, {**table, "100": ((), ("a",))}), True)
        self.refused(lone, other, {**table, "001": ((), ("b",))})
        self.refused(lone, other, {**table, "001": None})

    def test_long_states(self):
        # A state may be ahead by more digits than any codeword has.
        first = second = Codebook(2, 1, {"a": "0", "b": "1"})
        table = {"0": NONE, "00": (("a",), ()), "01": (("b",), ())}
        self.assertIs(check_table(first, second, table), True)
        for size in range(2, 40):
            table["0" + "0" * size] = (("a",) * size, ())
            self.assertIs(check_table(first, second, table), True)
        names = {"0": "a", "1": "b"}
        ahead = {"0" + digits: (tuple(names[digit] for digit in digits), ()) for digits in strings_of("01", 6)}
        behind = {"1" + digits: ((), tuple(names[digit] for digit in digits)) for digits in strings_of("01", 6)[1:]}
        self.assertIs(check_table(first, second, {**ahead, **behind}), True)
        for state in ("001", "0011", "00001", "101", "1100"):
            one, other = {**ahead, **behind}[state]
            self.refused(first, second, {**ahead, **behind, state: (one[::-1], other[::-1])})
        self.refused(first, second, {**table, "0" + "0" * 39: (("a",) * 38, ())})
        self.refused(first, second, {**table, "0" + "0" * 41: (("a",) * 41, ())})
        self.assertIs(check_table(first, second, {**table, "1" + "0" * 2: ((), ("a", "a")), "10": ((), ("a",))}), True)

    def test_other_things(self):
        for first, second in (shared_example(), (Codebook(2, 1, {}), Codebook(2, 1, {})), (full_book(2, 2),) * 2):
            table = confusion_table(first, second)
            self.assertIs(check_table(first, second, table), True)
            for thing in [*ODD_THINGS, *EMPTY_THINGS, list(table), list(table.items()), tuple(table), "0"]:
                self.refused(first, second, thing)

    def test_keys_of_other_forms(self):
        pairs = (shared_example(), (Codebook(3, 1, {}), Codebook(3, 1, {})))
        for first, second in pairs:
            table = confusion_table(first, second)
            keys = ["1", "", "2", "20", "0" + str(first.radix), "00" + str(first.radix), "0a", "0 ", "00\n", " 0", "-0",
                    "0-", "a", "aa", "00x0", 0, 1, 10, -1, 10 ** 39, "start", "9"]
            for key in keys:
                for value in (None, NONE, (("a",), ())):
                    self.refused(first, second, {**table, key: value})
                    self.refused(first, second, {key: value, **table})
        empty = Codebook(3, 1, {})
        for key in ("00", "12", "0" * 30, "1" + "012" * 9):
            self.assertIs(check_table(empty, empty, {"0": NONE, key: None}), True)

    def test_values_of_other_forms(self):
        first, second = Codebook(2, 2, {"a": "0", "b": "10"}), Codebook(2, 2, {"a": "0", "b": "11"})
        table = confusion_table(first, second)
        values = [
            ((),), ((), (), ()), [(), ()], ([], []), ((), []), ([], ()), (["a"], ()), ((), ["a"]), (("a",), ("a",)),
            (("b",), ("b",)), (("a",), ("b",)), ("a", ()), ((), "a"), ("", ""), ("", ()), ((), ""), (None, ()), ((), None),
            (None, None), ((("a",),), ()), ({}, {}), ((), {}), ({"a": 1}, ()), (0, 0), ((), 0), (True, ()), ((), False),
            {0: (), 1: ()}, (("a",), (), ()), "ab", "", "()", 0, False, True, 2, [], (), {}, ("a", "b"),
        ]
        values += [((name,), ()) for name in WRONG_NAMES] + [((), ("a", name)) for name in WRONG_NAMES]
        for value in [*values, *[thing for thing in ODD_THINGS if thing is not None]]:
            for state in ("0", "00", "010", "0101", "0111"):
                self.refused(first, second, {**table, state: value})
        # No step is possible from this state.
        for value in (None, NONE, (("a",), ()), ((), ("abcdefgh", "z")), (("b", "b", "a"), ())):
            self.assertIs(check_table(first, second, {**table, "0101": value}), True)

    def test_wrong_keys_of_dicts(self):
        book = Codebook(2, 1, {})
        for key in WRONG_KEYS:
            if key != "0":
                self.refused(book, book, {key: NONE})
                self.refused(book, book, {"0": NONE, key: NONE})

    def test_tables_of_confused_codebooks(self):
        # There is none: whatever values the states have, some rule is broken.
        first, second = Codebook(2, 1, {"a": "0"}), Codebook(2, 1, {"b": "0"})
        for value in (None, NONE, (("a",), ()), ((), ("b",)), (("b",), ())):
            self.refused(first, second, {"0": NONE, "00": value})
        first, second = Codebook(2, 2, {"a": "0"}), Codebook(2, 2, {"a": "00"})
        values = [None] + [((name,) * size, ()) for name in "ab" for size in range(3)] + [((), ("a",)), ((), ("a", "a"))]
        for one, other in product(values, values):
            self.refused(first, second, {"0": NONE, "00": one, "10": other})


if __name__ == "__main__":
    unittest.main()
