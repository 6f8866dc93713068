"""Kept names and failing levels: [2], [6], [7], [11] (first item), [22]."""

import unittest
from itertools import permutations, product

from keptcode.capacity import failing_level, loads
from keptcode.codebooks import Codebook
from keptcode.errors import InvalidKept, InvalidRequest
from tests import by_words
from tests.things import ODD_THINGS, WRONG_NAMES, caught, fresh, full_book, wrong_requests

SHAPES = list(product(range(2, 5), range(1, 7)))
BOTH = (loads, failing_level)


def example():
    return Codebook(2, 3, {"a": "000", "b": "010", "c": "100"})


class ExampleTest(unittest.TestCase):
    def test_example(self):
        book = example()
        self.assertEqual(loads(book, {"d": 1}, ["a", "b", "c"]), [(2, 1), (3, 2), (0, 7)])
        self.assertEqual(failing_level(book, {"d": 1}, ["a", "b", "c"]), 1)
        self.assertIs(failing_level(book, {"d": 1}, ["c"]), None)

    def test_kept_names_count_once_more_than_others(self):
        book = example()
        self.assertEqual(loads(book, {"d": 1}, []), [(0, 1), (0, 2), (0, 7)])
        self.assertEqual(loads(book, {"d": 1}, ["c"]), [(1, 1), (1, 2), (0, 7)])
        self.assertEqual(loads(book, {"d": 1}, ["a", "b"]), [(1, 1), (2, 2), (0, 7)])

    def test_requested_names_give_up_their_codewords(self):
        book = example()
        self.assertEqual(loads(book, {"a": 3}, ["b", "c"]), [(2, 0), (2, 0), (0, 3)])
        self.assertEqual(loads(book, {"a": 2}, ["b", "c"]), [(2, 0), (2, 1), (0, 4)])
        self.assertEqual(loads(book, {"a": 1, "b": 1, "c": 1}, []), [(0, 3), (0, 6), (0, 12)])

    def test_reserved_strings_always_stay(self):
        book = Codebook(2, 3, {"a": "00"}, ("010", "1"))
        self.assertEqual(loads(book, {}, ["a"]), [(1, 1), (1, 3), (0, 7)])
        self.assertEqual(loads(book, {}, []), [(1, 1), (1, 3), (0, 7)])
        self.assertEqual(loads(book, {"a": 3}, []), [(1, 1), (1, 2), (0, 6)])


class CountTest(unittest.TestCase):
    def agrees(self, book, request):
        for kept in by_words.subsets(list(by_words.others(book, request))):
            self.assertEqual(loads(book, request, kept), by_words.loads(book, request, kept))
            failing = by_words.failing_levels(book, request, kept)
            self.assertEqual(failing_level(book, request, list(kept)), failing[0] if failing else None)

    def test_all_nodes_are_counted(self):
        # The names of the requests are old ones, kept ones and new ones.
        for radix, depth, most in ((2, 1, 2), (2, 2, 4), (3, 1, 3), (4, 1, 4)):
            for book in by_words.books(radix, depth, most):
                for request in by_words.requests_over("acz", depth, 3):
                    self.agrees(book, request)

    def test_larger_codebooks(self):
        for radix, depth, most in ((2, 3, 2), (3, 2, 2), (4, 2, 1)):
            for book in by_words.books(radix, depth, most):
                for request in by_words.requests_over("az", depth, 2):
                    self.agrees(book, request)

    def test_deep_codebooks(self):
        book = Codebook(2, 6, {"a": "000000", "b": "000001", "c": "01", "d": "1101"}, ("11110", "10"))
        for request in by_words.requests_over("ayz", 6, 2):
            self.agrees(book, request)
        self.agrees(Codebook(4, 4, {"a": "3333", "b": "00", "c": "1", "d": "3330"}, ("32", "332")), {"y": 1, "z": 4})


class GuaranteeTest(unittest.TestCase):
    def can_keep(self, book, request, kept):
        words = by_words.others(book, request)
        recoded = [name for name in words if name not in kept]
        fixed = [words[name] for name in kept] + list(book.reserved())
        lengths = list(by_words.wanted_lengths(book, request, recoded).values())
        # The order of the lengths only matters for the time that the search takes.
        return by_words.can_place(book.radix, fixed, sorted(lengths))

    def holds(self, book, request):
        for kept in by_words.subsets(list(by_words.others(book, request))):
            possible = failing_level(book, request, kept) is None
            self.assertEqual(possible, self.can_keep(book, request, kept), (book.words(), request, kept))

    def test_kept_exactly_if_no_level_fails(self):
        for radix, depth, most, asked in ((2, 1, 2, 3), (2, 2, 4, 3), (3, 1, 3, 3), (4, 1, 4, 3)):
            for book in by_words.books(radix, depth, most):
                for request in by_words.requests_over("acz", depth, asked):
                    self.holds(book, request)

    def test_larger_codebooks(self):
        for radix, depth, most, asked in ((2, 3, 3, 2), (3, 2, 2, 2)):
            for book in by_words.books(radix, depth, most):
                for request in by_words.requests_over("az", depth, asked):
                    self.holds(book, request)

    def test_codebooks_with_many_names(self):
        for words in (
            {"a": "000", "b": "010", "c": "100", "d": "110"},
            {"a": "000", "b": "001", "c": "011", "d": "10", "e": "111"},
            {"a": "00", "b": "010", "c": "011", "d": "100", "e": "11"},
        ):
            for request in by_words.requests_over("ayz", 3, 2):
                self.holds(Codebook(2, 3, words), request)
                self.holds(Codebook(2, 3, {"a": words["a"], "b": words["b"]}, [words["c"], words["d"]]), request)


class EdgeTest(unittest.TestCase):
    def test_nothing_at_all(self):
        for radix, depth in SHAPES:
            book = Codebook(radix, depth, {})
            self.assertEqual(fresh(self, loads, book, {}, []), [(0, 0)] * depth)
            self.assertIs(fresh(self, failing_level, book, {}, ()), None)

    def test_full_codebook(self):
        for radix, depth in SHAPES:
            book = full_book(radix, depth)
            names = list(book.words())
            sizes = [radix ** level for level in range(1, depth)]
            full = (0, radix ** depth)
            self.assertEqual(loads(book, {}, names), [(size, 0) for size in sizes] + [full])
            self.assertEqual(loads(book, {}, []), [(0, 0)] * (depth - 1) + [full])
            self.assertIs(failing_level(book, {}, names), None)
            self.assertIs(failing_level(book, {}, []), None)
            for level in range(1, depth + 1):
                self.assertEqual(failing_level(book, {"z": level}, names), level)
                self.assertEqual(failing_level(book, {"z": level}, []), depth)
                # What the first name gives up is too little for all levels but the last one.
                wanted = level if level < depth else None
                self.assertEqual(failing_level(book, {names[0]: level}, names[1:]), wanted)

    def test_reserved_strings_alone(self):
        for radix, depth in SHAPES:
            reserved = ["0" * depth] if depth == 1 else ["0" * depth, "1"]
            book = Codebook(radix, depth, {}, reserved)
            for level, (held, filled) in enumerate(loads(book, {}, ()), 1):
                self.assertEqual(held, 1 if level < depth else 0)
                self.assertEqual(filled, (radix ** (level - 1) if depth > 1 else 0) + (1 if level == depth else 0))
            self.assertIs(failing_level(book, {}, []), None)

    def test_filling_a_level_exactly_and_by_one_more(self):
        for radix, depth in SHAPES:
            for level in range(1, min(depth, 4) + 1):
                names = ["".join(signs) for signs in product("abcd", repeat=4)][:radix ** level]
                exact = {name: level for name in names}
                book = Codebook(radix, depth, {})
                self.assertEqual(loads(book, exact, []),
                                 [(0, 0 if at < level else radix ** at) for at in range(1, depth + 1)])
                self.assertIs(failing_level(book, exact, []), None)
                for more in range(1, depth + 1):
                    self.assertEqual(failing_level(book, {**exact, "z": more}, []), max(level, more))

    def test_smallest_of_several(self):
        book = Codebook(2, 3, {"a": "00", "b": "010"})
        self.assertEqual(by_words.failing_levels(book, {"x": 1, "y": 1}, ["a", "b"]), [1, 2, 3])
        self.assertEqual(failing_level(book, {"x": 1, "y": 1}, ["a", "b"]), 1)
        self.assertEqual(by_words.failing_levels(book, {"x": 2, "y": 2, "z": 2}, ["a", "b"]), [2, 3])
        self.assertEqual(failing_level(book, {"x": 2, "y": 2, "z": 2}, ["a", "b"]), 2)
        self.assertEqual(failing_level(book, {"x": 1, "y": 3, "z": 3}, []), 3)

    def test_a_level_in_the_middle_fails_alone(self):
        book = Codebook(2, 4, {"a": "0001", "b": "0101", "c": "1001", "d": "1101"})
        self.assertEqual(by_words.failing_levels(book, {"z": 2}, ["a", "b", "c", "d"]), [2])
        self.assertEqual(failing_level(book, {"z": 2}, ["a", "b", "c", "d"]), 2)

    def test_kept_in_any_order(self):
        book = Codebook(2, 4, {"a": "0001", "b": "001", "c": "1001", "d": "11"})
        wanted = by_words.loads(book, {"d": 1}, ["a", "b", "c"])
        for kept in permutations(["a", "b", "c"]):
            self.assertEqual(fresh(self, loads, book, {"d": 1}, kept), wanted)
            self.assertEqual(fresh(self, loads, book, {"d": 1}, list(kept)), wanted)
            self.assertEqual(fresh(self, failing_level, book, {"d": 1}, list(kept)), 1)

    def test_order_of_requests(self):
        book = example()
        self.assertEqual(loads(book, {"x": 1, "c": 2}, ["b"]), loads(book, {"c": 2, "x": 1}, ["b"]))

    def test_kinds(self):
        found = loads(example(), {"d": 2}, ("a",))
        self.assertIs(type(found), list)
        self.assertEqual([type(pair) for pair in found], [tuple] * 3)

    def test_by_name(self):
        self.assertEqual(loads(kept=["c"], request={"d": 1}, book=example()), [(1, 1), (1, 2), (0, 7)])
        self.assertEqual(failing_level(kept=("a", "c"), request={"d": 1}, book=example()), 1)


class WrongInputTest(unittest.TestCase):
    def test_wrong_requests(self):
        for depth in (1, 3, 6):
            book = Codebook(2, depth, {"a": "0"})
            for request in wrong_requests(depth):
                for call in BOTH:
                    caught(self, InvalidRequest, call, book, request, ["a"])

    def test_lengths_up_to_the_depth(self):
        for radix, depth in SHAPES:
            book = Codebook(radix, depth, {"a": "0"})
            for length in range(-1, 9):
                if 1 <= length <= depth:
                    self.assertEqual(len(loads(book, {"b": length}, ["a"])), depth)
                else:
                    caught(self, InvalidRequest, loads, book, {"b": length}, ["a"])

    def test_wrong_kept(self):
        book = Codebook(2, 3, {"c": "0", "d": "10", "e": "110"})
        for call in BOTH:
            for thing in ODD_THINGS + ("", {}, "c", "cd", {"c": True}, {"c": "0"}, {"c": 3}, ("c", ["d"])):
                caught(self, InvalidKept, call, book, {"e": 3}, thing)
            for name in WRONG_NAMES + ("a", "f", "cc", "cd"):
                for kept in ([name], (name,), ["c", name], ("c", name), [name, "d"], ["c", name, "d"]):
                    caught(self, InvalidKept, call, book, {"e": 3}, kept)

    def test_kept_twice_or_requested(self):
        book = Codebook(2, 3, {"c": "0", "d": "10", "e": "110"})
        for call in BOTH:
            for kept in (["c", "c"], ("c", "c"), ["c", "d", "c"], ("d", "c", "d"), ["e"], ("c", "e"), ["f"], ["e", "e"]):
                caught(self, InvalidKept, call, book, {"e": 3, "f": 3}, kept)
            caught(self, InvalidKept, call, Codebook(2, 3, {}), {"f": 1}, ["f"])
            caught(self, InvalidKept, call, Codebook(2, 3, {}, ("0",)), {}, ["c"])

    def test_the_request_comes_first(self):
        book = Codebook(2, 3, {"c": "0", "d": "10"})
        for call in BOTH:
            for kept in (None, ["c", "c"], [[]], "c", {"c": 1}, ["x"]):
                for request in (None, {"e": 4}, {"e": True}, {"E": 1}, [], {1: 1}):
                    caught(self, InvalidRequest, call, book, request, kept)
                caught(self, InvalidKept, call, book, {"e": 1}, kept)
                caught(self, InvalidKept, call, book, {"e": 1, "f": 1, "g": 1}, kept)


if __name__ == "__main__":
    unittest.main()
