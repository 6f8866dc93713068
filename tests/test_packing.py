"""Assigning codewords beside those that stay: [2], [6], [7], [20], [21]."""

import unittest
from itertools import product

from keptcode.codebooks import Codebook
from keptcode.errors import InvalidRequest, NoRoom
from keptcode.packing import assign, canonical
from tests import by_words
from tests.things import ODD_THINGS, caught, fresh, full_book, wrong_requests

SHAPES = list(product(range(2, 5), range(1, 7)))


def many_names(many):
    return ["".join(signs) for signs in product("abcdefgh", repeat=4)][:many]


class ExampleTest(unittest.TestCase):
    def test_assign(self):
        book = assign(Codebook(2, 3, {"a": "0", "b": "10"}), {"c": 3, "b": 3})
        self.assertEqual(str(book.words()), "{'a': '0', 'b': '100', 'c': '101'}")

    def test_canonical(self):
        book = canonical(2, 3, {"x": 2, "y": 1, "z": 3})
        self.assertEqual(str(book.words()), "{'x': '10', 'y': '0', 'z': '110'}")

    def test_no_room(self):
        self.assertEqual(caught(self, NoRoom, canonical, 2, 3, {"x": 1, "y": 1, "z": 3}).level, 3)


class AssignTest(unittest.TestCase):
    def agrees(self, book, request):
        words = by_words.others(book, request)
        fixed = [*words.values(), *book.reserved()]
        wanted = by_words.first_places(book.radix, fixed, request)
        failing = by_words.failing_levels(book, request, list(words))
        if failing:
            self.assertEqual(caught(self, NoRoom, assign, book, request).level, failing[0])
            self.assertIs(wanted, None)
        else:
            expected = Codebook(book.radix, book.depth, {**words, **wanted}, book.reserved())
            self.assertEqual(fresh(self, assign, book, request), expected)

    def test_every_small_codebook(self):
        for radix, depth, most in ((2, 1, 2), (2, 2, 4), (3, 1, 3), (4, 1, 4)):
            for book in by_words.books(radix, depth, most):
                for request in by_words.requests_over("acyz", depth, 4):
                    self.agrees(book, request)

    def test_larger_codebooks(self):
        for radix, depth, most in ((2, 3, 3), (3, 2, 2)):
            for book in by_words.books(radix, depth, most):
                for request in by_words.requests_over("az", depth, 2):
                    self.agrees(book, request)

    def test_deep_codebooks(self):
        book = Codebook(2, 6, {"a": "000000", "b": "000001", "c": "01", "d": "1101"}, ("11110", "10"))
        for request in by_words.requests_over("acyz", 6, 3):
            self.agrees(book, request)
        book = Codebook(4, 4, {"a": "3333", "b": "00", "c": "1", "d": "3330"}, ("32", "332"))
        for request in ({"y": 1, "z": 4}, {"b": 1, "a": 1}, {"c": 4, "z": 1}, {"z": 1, "y": 1, "x": 2}):
            self.agrees(book, request)

    def test_order_of_length_and_name(self):
        book = Codebook(2, 6, {}, ("00",))
        request = {"e": 3, "b": 4, "d": 3, "a": 6, "c": 2}
        wanted = {"a": "110100", "b": "1100", "c": "01", "d": "100", "e": "101"}
        self.assertEqual(assign(book, request).words(), wanted)
        self.assertEqual(assign(book, {name: request[name] for name in "abcde"}).words(), wanted)

    def test_gaps_are_filled_from_the_left(self):
        book = Codebook(2, 4, {"a": "0001", "b": "01", "c": "1011"})
        found = assign(book, {"z": 4, "y": 4, "x": 3, "w": 3}).words()
        self.assertEqual(found, {**book.words(), "w": "001", "x": "100", "y": "0000", "z": "1010"})

    def test_old_codewords_are_not_in_the_way(self):
        book = Codebook(2, 2, {"a": "0", "b": "10", "c": "11"})
        self.assertEqual(assign(book, {"c": 1, "a": 2}).words(), {"a": "11", "b": "10", "c": "0"})
        self.assertEqual(assign(book, {"a": 2, "b": 2, "c": 2}).words(), {"a": "00", "b": "01", "c": "10"})
        self.assertEqual(assign(book, {"a": 1, "b": 2}), book)

    def test_result_is_a_codebook_of_the_same_shape(self):
        book = assign(Codebook(3, 4, {"b": "1"}, ["21", "20"]), {"a": 2})
        self.assertIs(type(book), Codebook)
        self.assertEqual((book.radix, book.depth, book.reserved()), (3, 4, ("20", "21")))
        self.assertEqual(list(book.words().items()), [("a", "00"), ("b", "1")])

    def test_by_name(self):
        self.assertEqual(assign(request={"a": 1}, book=Codebook(2, 1, {})).words(), {"a": "0"})


class EdgeTest(unittest.TestCase):
    def test_empty_request(self):
        for radix, depth in SHAPES:
            for book in (
                Codebook(radix, depth, {}), Codebook(radix, depth, {}, ("1", "0" * depth)), full_book(radix, depth),
            ):
                found = assign(book, {})
                self.assertEqual(found, book)
                self.assertIsNot(found, book)

    def test_full_codebook(self):
        for radix, depth in SHAPES:
            book = full_book(radix, depth)
            names = list(book.words())
            self.assertEqual(assign(book, {name: depth for name in names}), book)
            self.assertEqual(assign(book, {names[-1]: depth}), book)
            for level in range(1, depth + 1):
                self.assertEqual(caught(self, NoRoom, assign, book, {"z": level}).level, level)

    def test_filling_the_tree_exactly_and_by_one_more(self):
        for radix, depth in SHAPES:
            for level in range(1, depth + 1):
                names = many_names(radix ** level)
                exact = {name: level for name in reversed(names)}
                book = canonical(radix, depth, exact)
                self.assertEqual(book.words(), dict(zip(names, by_words.nodes_of(radix, level))))
                self.assertEqual(assign(Codebook(radix, depth, {}), exact), book)
                for more in {1, level, depth}:
                    error = caught(self, NoRoom, canonical, radix, depth, {**exact, "z": more})
                    self.assertEqual(error.level, max(level, more))

    def test_a_comb_fills_the_tree(self):
        for radix, depth in SHAPES:
            lengths = {}
            for level in range(1, depth + 1):
                for digit in range(radix - 1):
                    lengths["zyxwvu"[level - 1] + "abc"[digit]] = level
            lengths["zlast"] = depth
            book = canonical(radix, depth, lengths)
            top = str(radix - 1)
            self.assertEqual(book.codeword("zlast"), top * depth)
            self.assertEqual(book.codeword("za"), "0")
            for level in range(1, depth + 1):
                self.assertEqual(book.codeword("zyxwvu"[level - 1] + "a"), top * (level - 1) + "0")
            self.assertEqual(caught(self, NoRoom, canonical, radix, depth, {**lengths, "more": depth}).level, depth)

    def test_reserved_strings_alone(self):
        book = Codebook(2, 3, {}, ("0", "110"))
        self.assertEqual(assign(book, {"a": 3, "b": 2}).words(), {"a": "111", "b": "10"})
        self.assertEqual(caught(self, NoRoom, assign, book, {"a": 1}).level, 1)
        self.assertEqual(caught(self, NoRoom, assign, book, {"a": 2, "b": 2}).level, 2)
        self.assertEqual(caught(self, NoRoom, assign, book, {"a": 2, "b": 3, "c": 3}).level, 3)

    def test_smallest_of_several_levels(self):
        book = Codebook(2, 3, {"a": "00", "b": "010"})
        self.assertEqual(caught(self, NoRoom, assign, book, {"x": 1, "y": 1, "z": 3}).level, 1)
        self.assertEqual(caught(self, NoRoom, assign, book, {"x": 2, "y": 2, "z": 2}).level, 2)
        self.assertEqual(caught(self, NoRoom, assign, book, {"x": 1, "y": 3, "z": 3}).level, 3)
        comb = Codebook(2, 4, {"a": "0001", "b": "0101", "c": "1001", "d": "1101"})
        self.assertEqual(caught(self, NoRoom, assign, comb, {"z": 2}).level, 2)


class CanonicalTest(unittest.TestCase):
    def test_same_as_assigning_to_an_empty_codebook(self):
        for radix, depth in product((2, 3), (1, 2, 3)):
            for lengths in by_words.requests_over("bcad", depth, 4):
                wanted = by_words.first_places(radix, [], lengths)
                if wanted is None:
                    failing = by_words.failing_levels(Codebook(radix, depth, {}), lengths, [])
                    self.assertEqual(caught(self, NoRoom, canonical, radix, depth, lengths).level, failing[0])
                else:
                    self.assertEqual(fresh(self, canonical, radix, depth, lengths), Codebook(radix, depth, wanted))

    def test_no_lengths(self):
        for radix, depth in SHAPES:
            self.assertEqual(canonical(radix, depth, {}), Codebook(radix, depth, {}))

    def test_by_name(self):
        self.assertEqual(canonical(lengths={"a": 2}, depth=3, radix=2).words(), {"a": "00"})


class WrongInputTest(unittest.TestCase):
    def test_wrong_requests(self):
        for depth in (1, 3, 6):
            for book in (Codebook(2, depth, {}), Codebook(2, depth, {"a": "0"}, ["1"])):
                for request in wrong_requests(depth):
                    caught(self, InvalidRequest, assign, book, request)
                    caught(self, InvalidRequest, canonical, 2, depth, request)

    def test_lengths_up_to_the_depth(self):
        for radix, depth in SHAPES:
            book = Codebook(radix, depth, {})
            for length in range(-1, 9):
                if 1 <= length <= depth:
                    self.assertEqual(assign(book, {"a": length}).words(), {"a": "0" * length})
                else:
                    caught(self, InvalidRequest, assign, book, {"a": length})
                    caught(self, InvalidRequest, canonical, radix, depth, {"a": length})

    def test_wrong_radix_and_depth(self):
        others = (0, 1, -2, 7, 10, "2", "", [], [2], (), (3,), {}, {2: 2}, None, True, False)
        for thing in [*ODD_THINGS, *others]:
            whole = isinstance(thing, int) and not isinstance(thing, bool)
            if not (whole and 2 <= thing <= 4):
                caught(self, InvalidRequest, canonical, thing, 3, {"a": 1})
                caught(self, InvalidRequest, canonical, thing, 3, {})
            if not (whole and 1 <= thing <= 6):
                caught(self, InvalidRequest, canonical, 2, thing, {"a": 1})
                caught(self, InvalidRequest, canonical, 2, thing, {})
        for radix, depth in product(range(-1, 9), repeat=2):
            if 2 <= radix <= 4 and 1 <= depth <= 6:
                self.assertEqual(canonical(radix, depth, {"a": 1}).words(), {"a": "0"})
            else:
                caught(self, InvalidRequest, canonical, radix, depth, {"a": 1})

    def test_the_request_comes_first(self):
        full = full_book(2, 1)
        for request in ({"x": 1, "Y": 1}, {"x": 1, "y": 2}, {"x": 1, "y": True}, {"x": 1, 1: 1}):
            caught(self, InvalidRequest, assign, full, request)
        self.assertEqual(caught(self, NoRoom, assign, full, {"x": 1, "y": 1}).level, 1)
        caught(self, InvalidRequest, canonical, 2, 1, {"x": 1, "y": 1, "z": 0})
        caught(self, InvalidRequest, canonical, 5, 1, {"x": 1, "y": 1, "z": 1})
        caught(self, InvalidRequest, canonical, 2, 0, {"x": 1, "y": 1, "z": 1})
        self.assertEqual(caught(self, NoRoom, canonical, 2, 1, {"x": 1, "y": 1, "z": 1}).level, 1)

    def test_nothing_has_changed(self):
        book = Codebook(2, 2, {"a": "0", "b": "10"})
        caught(self, NoRoom, assign, book, {"c": 2, "d": 2})
        self.assertEqual(assign(book, {"c": 2}).words(), {"a": "0", "b": "10", "c": "11"})
        self.assertEqual(book, Codebook(2, 2, {"a": "0", "b": "10"}))


if __name__ == "__main__":
    unittest.main()
