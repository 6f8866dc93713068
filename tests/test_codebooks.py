"""Names, codewords and codebooks: [2], [3], [5], [12], [13]."""

import unittest
from itertools import combinations, permutations, product

from keptcode.codebooks import Codebook, is_codeword, is_name
from keptcode.errors import InvalidCodebook, UnknownName
from tests.things import (
    EMPTY_THINGS, ODD_THINGS, are_prefix_free, caught, full_book, prefix_free_sets, strings_of,
)

PRINTABLE = [chr(code) for code in range(32, 127)] + ["\t", "\n"]
LETTERS = "abcdefghijklmnopqrstuvwxyz"


class NameTest(unittest.TestCase):
    def test_names(self):
        for thing in ["a", "m", "z", "ab", "az", "za", "zz", "abcdefgh", "zzzzzzzz", LETTERS[:8], LETTERS[18:]]:
            self.assertIs(is_name(thing), True, thing)

    def test_every_length(self):
        for length in range(20):
            self.assertIs(is_name("k" * length), 1 <= length <= 8, length)

    def test_every_character_at_every_place(self):
        for sign in PRINTABLE:
            for text in (sign, sign + "a", "a" + sign, "a" + sign + "b", "abcdefg" + sign, sign + "abcdefg"):
                self.assertIs(is_name(text), sign in LETTERS, text)

    def test_other_things(self):
        for thing in ODD_THINGS + EMPTY_THINGS + (["a"], ("a",), {"a": "a"}, {"a": 1}, "abcdefghi"):
            self.assertIs(is_name(thing), False, thing)

    def test_by_name(self):
        self.assertIs(is_name(thing="a"), True)
        self.assertIs(is_name(thing=[]), False)


class CodewordTest(unittest.TestCase):
    def test_example(self):
        self.assertIs(is_codeword(3, 2, "20"), True)

    def test_every_string(self):
        for radix, depth in product(range(2, 5), range(1, 7)):
            nodes = strings_of("01234", 3) + ["0" * length for length in range(9)]
            for node in nodes + [str(radix - 1) * depth, str(radix) * depth, str(radix - 1) * (depth + 1)]:
                wanted = 1 <= len(node) <= depth and set(node) <= set("0123"[:radix])
                self.assertIs(is_codeword(radix, depth, node), wanted, (radix, depth, node))

    def test_every_character_at_every_place(self):
        for radix, sign in product(range(2, 5), PRINTABLE):
            for text in (sign, sign + "0", "1" + sign, "0" + sign + "1", "01010" + sign):
                self.assertIs(is_codeword(radix, 6, text), sign in "0123"[:radix], (radix, text))

    def test_other_things(self):
        for radix, depth in product(range(2, 5), range(1, 7)):
            for thing in ODD_THINGS + EMPTY_THINGS + (["0"], ("0",), {"0": "0"}, "a", "4", "0" * 7):
                self.assertIs(is_codeword(radix, depth, thing), False, (radix, depth, thing))

    def test_by_name(self):
        self.assertIs(is_codeword(thing="2", radix=3, depth=1), True)
        self.assertIs(is_codeword(thing="2", radix=2, depth=1), False)

    def test_beyond_the_limits_there_is_no_error(self):
        for radix, depth, thing in product((0, 1, 5, 9, 10, 11), (0, 7, 8), ("0", "9", "", None)):
            self.assertIn(is_codeword(radix, depth, thing), (True, False))


class CodebookTest(unittest.TestCase):
    def refused(self, *arguments):
        return caught(self, InvalidCodebook, Codebook, *arguments)

    def test_example(self):
        book = Codebook(2, 3, {"b": "10", "a": "0", "c": "110"})
        self.assertEqual(str(book.words()), "{'a': '0', 'b': '10', 'c': '110'}")

    def test_parts(self):
        book = Codebook(3, 4, {"name": "2001", "a": "21"}, ("1", "01"))
        self.assertEqual((book.radix, book.depth), (3, 4))
        self.assertEqual(list(book.words().items()), [("a", "21"), ("name", "2001")])
        self.assertEqual(book.reserved(), ("01", "1"))
        self.assertEqual((book.codeword("a"), book.codeword("name")), ("21", "2001"))
        self.assertEqual(len(book), 2)

    def test_by_name(self):
        book = Codebook(reserved=["1"], words={"a": "0"}, depth=1, radix=2)
        self.assertEqual(book, Codebook(2, 1, {"a": "0"}, ["1"]))
        self.assertEqual(book.codeword(name="a"), "0")
        caught(self, UnknownName, book.codeword, name="b")

    def test_radix(self):
        for radix in range(-3, 12):
            if 2 <= radix <= 4:
                self.assertEqual(Codebook(radix, 1, {}).radix, radix)
                self.assertEqual(Codebook(radix, 1, {"a": str(radix - 1)}).words(), {"a": str(radix - 1)})
                self.refused(radix, 1, {"a": str(radix)})
                self.refused(radix, 1, {}, [str(radix)])
            else:
                self.refused(radix, 1, {})
                self.refused(radix, 1, {"a": "0"})

    def test_depth(self):
        for depth in range(-3, 12):
            if 1 <= depth <= 6:
                self.assertEqual(Codebook(2, depth, {}).depth, depth)
                self.assertEqual(len(Codebook(2, depth, {"a": "1" * depth}, ["0" * depth])), 1)
                self.refused(2, depth, {"a": "1" * (depth + 1)})
                self.refused(2, depth, {}, ["1" * (depth + 1)])
            else:
                self.refused(2, depth, {})
                self.refused(2, depth, {"a": "0"})

    def test_names(self):
        self.assertEqual(Codebook(2, 1, {"abcdefgh": "0", "z": "1"}).words(), {"abcdefgh": "0", "z": "1"})
        for name in ("", "abcdefghi", "A", "aB", "a1", "a ", " a", "a-", "-", "a\n", "0", 0, 1, -1, 10 ** 39):
            self.refused(2, 1, {name: "0"})
            self.refused(2, 1, {"a": "1", name: "0"})

    def test_codewords(self):
        self.assertEqual(Codebook(2, 6, {"a": "0", "b": "101010"}).codeword("b"), "101010")
        for word in ("", "2", "02", "0a", "0 ", " 0", "0\n", "0000000", "a", 0, 1, None, True, ["0"], ("0",), {}):
            self.refused(2, 6, {"a": word})
            self.refused(2, 6, {"a": "1", "b": word})
            self.refused(2, 6, {"a": "1"}, [word])
            self.refused(2, 6, {"a": "1"}, (word,))
            self.refused(2, 6, {}, ["1", word])

    def test_every_set_of_nodes(self):
        nodes = strings_of("01", 2)[1:] + ["000", "011", "110"]
        for size in range(5):
            for chosen in combinations(nodes, size):
                valid = are_prefix_free(chosen)
                for cut in range(size + 1):
                    words = dict(zip(("d", "b", "c", "a"), chosen[:cut]))
                    if valid:
                        book = Codebook(2, 3, words, chosen[cut:])
                        self.assertEqual(list(book.words().items()), sorted(words.items()))
                        self.assertEqual(book.reserved(), tuple(sorted(chosen[cut:])))
                        self.assertEqual(len(book), cut)
                    else:
                        self.refused(2, 3, words, chosen[cut:])
                        self.refused(2, 3, words, list(chosen[cut:]))

    def test_clashes_in_every_order(self):
        for nodes in (("0", "01", "10"), ("0", "10", "100"), ("010", "1", "0"), ("00", "1", "00"), ("1", "0", "1")):
            for first, second, third in permutations(nodes):
                self.refused(2, 3, {"a": first, "b": second, "c": third})
                self.refused(2, 3, {"a": first, "b": second}, (third,))
                self.refused(2, 3, {"a": first}, [second, third])
                self.refused(2, 3, {}, (first, second, third))

    def test_duplicates(self):
        self.refused(2, 2, {"a": "0", "b": "0"})
        self.refused(2, 2, {"a": "0"}, ["0"])
        self.refused(2, 2, {}, ["0", "0"])
        self.refused(2, 2, {}, ("11", "0", "11"))

    def test_largest_books(self):
        for radix, depth in product(range(2, 5), range(1, 7)):
            book = full_book(radix, depth)
            self.assertEqual(len(book), radix ** depth)
            words = book.words()
            last = list(words)[-1]
            self.refused(radix, depth, {**words, "zzzzz": "0"})
            self.refused(radix, depth, {**words, last: words[list(words)[0]]})
            self.refused(radix, depth, words, ["0" * depth])
            self.assertEqual(len(Codebook(radix, depth, {}, list(words.values())).reserved()), radix ** depth)

    def test_odd_radix_and_depth(self):
        for thing in ODD_THINGS + EMPTY_THINGS + ("2", "3", (2,), [2], {2: 2}, {"radix": 2}):
            if thing not in (2, 3) or isinstance(thing, bool):
                self.refused(thing, 2, {})
            if thing not in (1, 2, 3) or isinstance(thing, bool):
                self.refused(2, thing, {})
            self.refused(thing, thing, thing, thing)

    def test_odd_words(self):
        for thing in ODD_THINGS + ("", [], (), [("a", "0")], (("a", "0"),), "a", {"a": "0", 1: "1"}):
            self.refused(2, 3, thing)
            self.refused(2, 3, thing, ("0",))
        for thing in ODD_THINGS + EMPTY_THINGS:
            self.refused(2, 3, {"a": thing})
            if isinstance(thing, (int, str)):
                self.refused(2, 3, {thing: "0"})

    def test_odd_reserved(self):
        for thing in ODD_THINGS + ("", {}, "0", "01", "0" * 3, {"0": "1"}, {"0": 1}):
            self.refused(2, 3, {}, thing)
            self.refused(2, 3, {"a": "0"}, thing)
        for thing in ODD_THINGS + EMPTY_THINGS:
            self.refused(2, 3, {}, [thing])
            self.refused(2, 3, {}, ("0", thing))

    def test_no_names(self):
        for radix, depth in product(range(2, 5), range(1, 7)):
            book = Codebook(radix, depth, {})
            self.assertEqual((book.radix, book.depth, book.words(), book.reserved()), (radix, depth, {}, ()))
            self.assertEqual(len(book), 0)
            caught(self, UnknownName, book.codeword, "a")

    def test_reserved_in_any_order(self):
        for order in permutations(["111", "0", "10"]):
            for reserved in (list(order), order):
                book = Codebook(2, 3, {"a": "110"}, reserved)
                self.assertEqual(book.reserved(), ("0", "10", "111"))
                self.assertIs(type(book.reserved()), tuple)
                self.assertEqual(book, Codebook(2, 3, {"a": "110"}, ("0", "10", "111")))

    def test_words_in_any_order(self):
        pairs = [("b", "0"), ("aa", "10"), ("c", "110"), ("ab", "1110")]
        for order in permutations(pairs):
            words = Codebook(2, 4, dict(order)).words()
            self.assertIs(type(words), dict)
            self.assertEqual(list(words.items()), [("aa", "10"), ("ab", "1110"), ("b", "0"), ("c", "110")])

    def test_unknown_names(self):
        book = Codebook(2, 3, {"a": "0", "name": "10"}, ["111"])
        for thing in ODD_THINGS + EMPTY_THINGS + (
            "b", "aa", "nam", "names", "Name", "name ", "0", "10", "111", "-", ["a"], ("a",), {"a": "0"}, {"a": 1},
        ):
            caught(self, UnknownName, book.codeword, thing)
        self.assertEqual(book, Codebook(2, 3, {"a": "0", "name": "10"}, ["111"]))

    def test_arguments_are_copied(self):
        words, reserved = {"b": "10", "a": "0"}, ["111", "110"]
        book = Codebook(2, 3, words, reserved)
        self.assertEqual(list(words), ["b", "a"])
        self.assertEqual(reserved, ["111", "110"])
        words["c"] = "0"
        del words["a"]
        reserved.clear()
        self.assertEqual(list(book.words().items()), [("a", "0"), ("b", "10")])
        self.assertEqual(book.reserved(), ("110", "111"))
        self.assertEqual((len(book), book.codeword("a")), (2, "0"))

    def test_arguments_behind_an_error(self):
        words, reserved = {"b": "10", "a": "0"}, ["11", "10"]
        self.refused(2, 3, words, reserved)
        self.assertEqual(list(words.items()), [("b", "10"), ("a", "0")])
        self.assertEqual(reserved, ["11", "10"])

    def test_results_are_new(self):
        book = Codebook(2, 3, {"b": "10", "a": "0"}, ("111", "110"))
        words = book.words()
        words["c"] = "1"
        del words["a"]
        self.assertEqual(list(book.words().items()), [("a", "0"), ("b", "10")])
        self.assertEqual((len(book), book.codeword("a")), (2, "0"))
        self.assertIsNot(book.words(), book.words())
        self.assertIsNot(book.reserved(), book.reserved())

    def test_length_and_size_of_every_small_book(self):
        for radix, depth in ((2, 1), (2, 2), (3, 1), (4, 1)):
            for nodes in prefix_free_sets(radix, depth):
                words = dict(zip("abcd", nodes))
                book = Codebook(radix, depth, words)
                self.assertEqual(len(book), len(nodes))
                self.assertEqual([book.codeword(name) for name in words], list(nodes))


class EqualityTest(unittest.TestCase):
    def test_equal(self):
        first = Codebook(2, 3, {"a": "0", "b": "10"}, ["111", "110"])
        second = Codebook(2, 3, {"b": "10", "a": "0"}, ("110", "111"))
        self.assertIs(first == second, True)
        self.assertIs(first == first, True)
        self.assertIs(first != second, False)

    def test_one_part_changed(self):
        words, reserved = {"a": "0", "b": "10"}, ["111", "110"]
        book = Codebook(2, 3, words, reserved)
        others = [
            Codebook(3, 3, words, reserved),
            Codebook(2, 4, words, reserved),
            Codebook(2, 3, {"a": "0", "c": "10"}, reserved),
            Codebook(2, 3, {"a": "10", "b": "0"}, reserved),
            Codebook(2, 3, {"a": "00", "b": "10"}, reserved),
            Codebook(2, 3, {"a": "0"}, reserved),
            Codebook(2, 3, {}, reserved),
            Codebook(2, 3, words, ["111"]),
            Codebook(2, 3, words, ["11"]),
            Codebook(2, 3, words),
            Codebook(2, 3, {"a": "0", "b": "10", "c": "110"}, ["111"]),
        ]
        for other in others:
            self.assertIs(book == other, False)
            self.assertIs(other == book, False)
            self.assertIs(book != other, True)

    def test_other_things(self):
        book = Codebook(2, 3, {"a": "0"})
        for thing in ODD_THINGS + EMPTY_THINGS + ({"a": "0"}, "2 3\na 0", (2, 3, {"a": "0"}, ())):
            self.assertIs(book == thing, False)
            self.assertIs(thing == book, False)
            self.assertIs(book != thing, True)


if __name__ == "__main__":
    unittest.main()
