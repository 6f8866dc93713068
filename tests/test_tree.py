"""The code tree: [2], [4], [5], [19]."""

import unittest
from itertools import product

from keptcode.codebooks import Codebook
from keptcode.errors import InvalidLength
from keptcode.tree import free_nodes, gaps, room, touched
from tests import by_words
from tests.things import ODD_THINGS, caught, fresh, full_book, wrong_lengths

SHAPES = list(product(range(2, 5), range(1, 7)))


class ExampleTest(unittest.TestCase):
    def test_example(self):
        book = Codebook(2, 3, {"a": "00", "b": "110"})
        self.assertEqual(free_nodes(book, 2), ["01", "10"])
        self.assertEqual(touched(book, 2), ["11"])
        self.assertEqual(room(book), (0, 2, 5))
        self.assertEqual(gaps(book), ["01", "10", "111"])

    def test_names_and_reserved_strings_alike(self):
        for book in (Codebook(2, 3, {"b": "110"}, ("00",)), Codebook(2, 3, {}, ["110", "00"])):
            self.assertEqual(free_nodes(book, 3), ["010", "011", "100", "101", "111"])
            self.assertEqual(touched(book, 1), ["0", "1"])
            self.assertEqual(touched(book, 3), [])
            self.assertEqual(gaps(book), ["01", "10", "111"])


class ByWordsTest(unittest.TestCase):
    def agrees(self, book):
        levels = range(1, book.depth + 1)
        for level in levels:
            self.assertEqual(fresh(self, free_nodes, book, level), by_words.free(book, level))
            self.assertEqual(fresh(self, touched, book, level), by_words.touched(book, level))
        self.assertEqual(fresh(self, room, book), tuple(len(by_words.free(book, level)) for level in levels))
        self.assertEqual(fresh(self, gaps, book), by_words.gaps(book))

    def test_every_small_codebook(self):
        for radix, depth, most in ((2, 1, 2), (2, 2, 4), (2, 3, 8), (3, 1, 3), (3, 2, 4), (4, 1, 4)):
            for book in by_words.books(radix, depth, most):
                self.agrees(book)

    def test_some_larger_codebooks(self):
        self.agrees(Codebook(2, 6, {"a": "000000", "b": "000001", "c": "01", "d": "1101"}, ("11110", "10")))
        self.agrees(Codebook(3, 4, {"a": "2222", "b": "0", "c": "1000"}, ("21", "1222")))
        self.agrees(Codebook(4, 3, {"a": "333", "b": "00", "c": "1", "d": "301"}, ("32", "332", "030")))


class EdgeTest(unittest.TestCase):
    def test_empty_codebook(self):
        for radix, depth in SHAPES:
            book = Codebook(radix, depth, {})
            self.assertEqual(room(book), tuple(radix ** level for level in range(1, depth + 1)))
            self.assertEqual(gaps(book), by_words.nodes_of(radix, 1))
            for level in range(1, depth + 1):
                self.assertEqual(free_nodes(book, level), by_words.nodes_of(radix, level))
                self.assertEqual(touched(book, level), [])

    def test_full_codebook(self):
        for radix, depth in SHAPES:
            whole = full_book(radix, depth)
            reserved_alone = Codebook(radix, depth, {}, list(whole.words().values()))
            for book in (whole, reserved_alone):
                self.assertEqual(room(book), (0,) * depth)
                self.assertEqual(gaps(book), [])
                self.assertEqual(free_nodes(book, depth), [])
                self.assertEqual(touched(book, depth), [])
                for level in range(1, depth):
                    self.assertEqual(touched(book, level), by_words.nodes_of(radix, level))

    def test_full_at_level_one(self):
        for radix, depth in SHAPES:
            book = Codebook(radix, depth, dict(zip("dbca", "0123"[:radix])))
            self.assertEqual((room(book), gaps(book), touched(book, 1)), ((0,) * depth, [], []))

    def test_one_node_of_the_full_depth(self):
        for radix, depth in SHAPES:
            node = (str(radix - 1) + "0" * depth)[:depth]
            for book in (Codebook(radix, depth, {"a": node}), Codebook(radix, depth, {}, (node,))):
                wanted = [node[:at] + digit for at in range(depth) for digit in "0123"[:radix] if digit != node[at]]
                self.assertEqual(gaps(book), sorted(wanted))
                self.assertEqual(room(book), tuple(radix ** level - 1 for level in range(1, depth + 1)))
                self.assertEqual([touched(book, level) for level in range(1, depth)],
                                 [[node[:level]] for level in range(1, depth)])
                self.assertEqual(touched(book, depth), [])

    def test_one_node_of_level_one(self):
        for radix, depth in SHAPES:
            book = Codebook(radix, depth, {"a": "1"})
            self.assertEqual(gaps(book), [digit for digit in "0123"[:radix] if digit != "1"])
            self.assertEqual(room(book), tuple((radix - 1) * radix ** level for level in range(depth)))
            self.assertEqual([touched(book, level) for level in range(1, depth + 1)], [[]] * depth)

    def test_kinds(self):
        book = Codebook(3, 2, {"a": "10"})
        self.assertIs(type(room(book)), tuple)
        for result in (free_nodes(book, 1), touched(book, 1), gaps(book)):
            self.assertIs(type(result), list)

    def test_by_name(self):
        book = Codebook(2, 2, {"a": "10"})
        self.assertEqual(free_nodes(length=2, book=book), ["00", "01", "11"])
        self.assertEqual(touched(length=1, book=book), ["1"])
        self.assertEqual(room(book=book), (1, 3))
        self.assertEqual(gaps(book=book), ["0", "11"])


class WrongLengthTest(unittest.TestCase):
    def test_wrong_lengths(self):
        for radix, depth in SHAPES:
            for book in (Codebook(radix, depth, {}), Codebook(radix, depth, {"a": "0"}, ["1"])):
                for length in wrong_lengths(depth):
                    caught(self, InvalidLength, free_nodes, book, length)
                    caught(self, InvalidLength, touched, book, length)

    def test_other_things(self):
        book = Codebook(2, 6, {"a": "01"})
        right = (1, 2, 3)
        for thing in ODD_THINGS:
            if thing not in right or isinstance(thing, bool):
                caught(self, InvalidLength, free_nodes, book, thing)
                caught(self, InvalidLength, touched, book, length=thing)

    def test_nothing_has_changed(self):
        book = Codebook(2, 2, {"a": "01"})
        caught(self, InvalidLength, free_nodes, book, 3)
        self.assertEqual((free_nodes(book, 2), touched(book, 1)), (["00", "10", "11"], ["0"]))


if __name__ == "__main__":
    unittest.main()
