"""Moves: [2], [11] (fifth item), [39], [40]."""

import unittest
from itertools import permutations, product
from random import Random

from keptcode.codebooks import Codebook
from keptcode.errors import InvalidPair
from keptcode.moves import move_cycle, move_order
from tests import by_rules, by_words, drawn
from tests.things import are_prefix_free, caught, fresh, full_book

SHAPES = list(product(range(2, 5), range(1, 7)))


def drawn_codes(draw, radix, depth):
    """Two codebooks with the same reserved strings and mostly the same names."""
    base = drawn.nodes(draw, radix, depth, 3)[:draw.randrange(2)]
    books = []
    for _ in range(2):
        found = list(base)
        for _ in range(14):
            node = "".join(draw.choice("0123"[:radix]) for _ in range(draw.randint(1, depth)))
            if not any(by_words.conflict(node, other) for other in found):
                found.append(node)
        names = draw.sample("abcdefgh", 8)
        mine = found[len(base):][:6]
        books.append(Codebook(radix, depth, dict(zip(names, mine)), base))
    return books


class ExampleTest(unittest.TestCase):
    def test_example(self):
        self.assertEqual(
            move_order(Codebook(2, 2, {"a": "0", "b": "10"}), Codebook(2, 2, {"a": "11", "b": "0"})), ["a", "b"])
        cycle = move_cycle(Codebook(2, 1, {"a": "0", "b": "1"}), Codebook(2, 1, {"a": "1", "b": "0"}))
        self.assertEqual(sorted(cycle), ["a", "b"])


class MovesTest(unittest.TestCase):
    def judged(self, old, new, search=True):
        """Check all that is said of a pair; say whether there is an order."""
        order, cycle = move_order(old, new), move_cycle(old, new)
        self.assertEqual(order is None, cycle is not None)
        if search:
            names = by_rules.changed(old, new)
            wanted = any(by_rules.is_order(old, new, list(one)) for one in permutations(names))
            self.assertEqual(order is not None, wanted, (old.words(), new.words()))
        if order is None:
            self.assertTrue(by_rules.is_cycle(old, new, cycle), (old.words(), new.words(), cycle))
            return False
        self.assertIs(type(order), list)
        self.assertTrue(by_rules.is_order(old, new, order), (old.words(), new.words(), order))
        return True

    def test_all_pairs_of_small_codebooks(self):
        for radix, depth, names in ((2, 1, "ab"), (3, 1, "abc"), (2, 2, "ab")):
            codes = [dict(zip(chosen, nodes)) for size in range(len(names) + 1) for chosen in permutations(names, size)
                     for nodes in permutations(by_words.all_nodes(radix, depth), size)
                     if are_prefix_free(nodes)]
            books = [Codebook(radix, depth, words) for words in codes]
            outcomes = [self.judged(old, new) for old, new in product(books, books)]
            self.assertTrue(0 < sum(outcomes) < len(outcomes))

    def test_full_codes_of_four_names(self):
        books = [Codebook(2, 3, dict(zip(order, nodes))) for nodes in (("00", "01", "10", "11"), ("0", "10", "110", "111"))
                 for order in permutations("abcd")]
        outcomes = [self.judged(old, new) for old in books[::5] for new in books[::3]]
        self.assertTrue(0 < sum(outcomes) < len(outcomes))

    def test_drawn_codebooks(self):
        draw = Random(81)
        for radix, depth in ((2, 3), (2, 4), (3, 3), (4, 2)):
            outcomes = [self.judged(*drawn_codes(draw, radix, depth), search=False) for _ in range(150)]
            self.assertTrue(0 < sum(outcomes) < len(outcomes), (radix, depth))

    def test_drawn_codebooks_against_all_orders(self):
        draw = Random(82)
        found = 0
        while found < 60:
            old, new = drawn_codes(draw, 2, 4)
            if 3 <= len(by_rules.changed(old, new)) <= 6:
                self.judged(old, new)
                found += 1

    def test_nothing_changes(self):
        for radix, depth in SHAPES:
            for book in (Codebook(radix, depth, {}), Codebook(radix, depth, {"a": "0"}, ["1"]), full_book(radix, depth)):
                same = Codebook(radix, depth, book.words(), book.reserved())
                self.assertEqual(move_order(book, same), [])
                self.assertIs(move_cycle(book, same), None)

    def test_names_that_only_appear_or_disappear(self):
        for radix, depth in SHAPES:
            empty, full = Codebook(radix, depth, {}), full_book(radix, depth)
            for old, new in ((empty, full), (full, empty)):
                self.assertEqual(sorted(move_order(old, new)), sorted(full.words()))
                self.assertIs(move_cycle(old, new), None)
        # What appears must wait for what disappears.
        old, new = Codebook(2, 3, {"z": "0", "y": "10"}), Codebook(2, 3, {"a": "00", "b": "01", "c": "1"})
        order = move_order(old, new)
        self.assertTrue(by_rules.is_order(old, new, order))
        self.assertLess(order.index("z"), min(order.index("a"), order.index("b")))
        self.assertLess(order.index("y"), order.index("c"))
        self.assertTrue(self.judged(new, old))

    def test_forced_orders(self):
        nodes = ["000", "001", "010", "011", "100", "101", "110", "111"]
        names = "hcebagdf"
        for size in range(1, 8):
            old = Codebook(2, 3, dict(zip(names, nodes[:size])))
            new = Codebook(2, 3, dict(zip(names, nodes[1:size + 1])))
            # Each name moves to where the next one was.
            self.assertEqual(move_order(old, new), list(names[:size])[::-1])
            self.assertIs(move_cycle(old, new), None)
            self.assertEqual(move_order(new, old), list(names[:size]))

    def test_forced_orders_by_prefixes(self):
        old = Codebook(2, 4, {"a": "0", "b": "10", "c": "110"})
        new = Codebook(2, 4, {"a": "1111", "b": "01", "c": "100"})
        self.assertEqual(move_order(old, new), ["a", "b", "c"])
        self.assertEqual(move_order(new, old), ["c", "b", "a"])

    def test_cycles(self):
        nodes = ["000", "001", "010", "011", "100", "101", "110", "111"]
        names = "hcebagdf"
        for size in range(2, 9):
            old = Codebook(2, 3, dict(zip(names, nodes[:size])))
            new = Codebook(2, 3, dict(zip(names, nodes[1:size] + nodes[:1])))
            self.assertIs(move_order(old, new), None)
            cycle = move_cycle(old, new)
            self.assertEqual(sorted(cycle), sorted(names[:size]))
            self.assertTrue(by_rules.is_cycle(old, new, cycle))
            self.assertFalse(size > 2 and by_rules.is_cycle(old, new, cycle[::-1]))

    def test_cycles_with_names_that_wait_for_them(self):
        # "a" waits for a cycle and is waited for by none, and "f" is not in the way of any.
        old = Codebook(2, 3, {"b": "000", "c": "001", "f": "111", "a": "010"})
        new = Codebook(2, 3, {"b": "001", "c": "000", "f": "110", "d": "010", "a": "011"})
        self.assertEqual(sorted(move_cycle(old, new)), ["b", "c"])
        old = Codebook(2, 4, {"b": "000", "c": "001", "a": "10"})
        new = Codebook(2, 4, {"b": "0010", "c": "0001", "a": "0000"})
        self.assertIs(move_order(old, new), None)
        self.assertEqual(sorted(move_cycle(old, new)), ["b", "c"])

    def test_cycles_by_prefixes(self):
        old, new = Codebook(2, 3, {"a": "0", "b": "10"}), Codebook(2, 3, {"a": "101", "b": "00"})
        self.assertIs(move_order(old, new), None)
        self.assertEqual(sorted(move_cycle(old, new)), ["a", "b"])

    def test_a_name_is_not_in_its_own_way(self):
        for one, other in (("0", "00"), ("00", "0"), ("0", "01"), ("010", "0")):
            old, new = Codebook(2, 3, {"a": one}), Codebook(2, 3, {"a": other})
            self.assertEqual(move_order(old, new), ["a"])
            self.assertIs(move_cycle(old, new), None)

    def test_large_codebooks(self):
        for radix, depth in ((4, 6), (2, 6), (3, 5)):
            old = full_book(radix, depth)
            names, nodes = list(old.words()), list(old.words().values())
            turned = Codebook(radix, depth, dict(zip(names, nodes[1:] + nodes[:1])))
            self.assertIs(move_order(old, turned), None)
            self.assertEqual(sorted(move_cycle(old, turned)), names)
            spare = Codebook(radix, depth, dict(zip(names[1:], nodes[1:])))
            shifted = Codebook(radix, depth, dict(zip(names[1:], nodes[:-1])))
            self.assertEqual(move_order(spare, shifted), names[1:])
            self.assertIs(move_cycle(spare, shifted), None)

    def test_reserved_strings(self):
        old = Codebook(2, 3, {"a": "0", "b": "10"}, ["110", "111"])
        new = Codebook(2, 3, {"a": "10", "c": "0"}, ["111", "110"])
        self.assertEqual(move_order(old, new), ["b", "a", "c"])
        self.assertTrue(self.judged(old, new))

    def test_new_results(self):
        old, new = Codebook(2, 3, {"a": "0", "b": "10"}), Codebook(2, 3, {"a": "101", "b": "00"})
        fresh(self, move_cycle, old, new)
        fresh(self, move_order, old, Codebook(2, 3, {"b": "11"}))

    def test_order_of_keys_does_not_matter(self):
        words = {"a": "00", "b": "01", "c": "10"}
        other = Codebook(2, 2, {"a": "01", "b": "11", "c": "00"})
        turned = Codebook(2, 2, {"a": "01", "b": "10", "c": "00"})
        for order in permutations(words):
            book = Codebook(2, 2, {name: words[name] for name in order})
            self.assertEqual(move_order(book, other), move_order(Codebook(2, 2, words), other))
            self.assertEqual(move_cycle(book, turned), move_cycle(Codebook(2, 2, words), turned))

    def test_by_name(self):
        old, new = Codebook(2, 2, {"a": "0", "b": "10"}), Codebook(2, 2, {"a": "11", "b": "0"})
        self.assertEqual(move_order(new=new, old=old), ["a", "b"])
        self.assertIs(move_cycle(new=new, old=old), None)


class InvalidPairTest(unittest.TestCase):
    def test_shapes(self):
        for one, other in product(SHAPES, SHAPES):
            for words in ({}, {"a": "0"}):
                old, new = Codebook(*one, words), Codebook(*other, words)
                if one == other:
                    self.assertEqual(move_order(old, new), [])
                else:
                    caught(self, InvalidPair, move_order, old, new)
                    caught(self, InvalidPair, move_cycle, old, new)

    def test_reserved_strings(self):
        choices = [(), ("1",), ("10",), ("11",), ("10", "11"), ("11", "10"), ("10", "111")]
        for one, other in product(choices, choices):
            old, new = Codebook(2, 3, {"a": "00"}, one), Codebook(2, 3, {"a": "01"}, other)
            if sorted(one) == sorted(other):
                self.assertEqual(move_order(old, new), ["a"])
                self.assertIs(move_cycle(old, new), None)
            else:
                caught(self, InvalidPair, move_order, old, new)
                caught(self, InvalidPair, move_cycle, old, new)


if __name__ == "__main__":
    unittest.main()
