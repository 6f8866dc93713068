"""Encoding and decoding: [2], [11], [16], [17], [18]."""

import unittest
from itertools import product

from keptcode.codebooks import Codebook
from keptcode.coding import Decoder, decode, encode
from keptcode.errors import DecodeError, UnknownName
from tests.things import EMPTY_THINGS, ODD_THINGS, caught, full_book, prefix_free_sets, strings_of

BOOK = Codebook(2, 3, {"a": "0", "b": "10", "c": "110"})
RESERVING = Codebook(3, 3, {"a": "0", "bb": "12", "c": "202"}, ["111", "21"])
WRONG_PARTS = ("2", "a", " ", "\n", "\t", "-", "-1", "+1", "0 1", "1.0", "O", "l")


def small_codes():
    """All codebooks of radix 2 and depth 2, and of radix 3 and 4 and depth 1, without reserved strings."""
    for radix, depth in ((2, 2), (3, 1), (4, 1)):
        for nodes in prefix_free_sets(radix, depth):
            yield Codebook(radix, depth, dict(zip(("d", "a", "cc", "b"), nodes)))


def lists_by_string(book, longest):
    """All strings up to a length that can be decoded, with the lists of names that they encode."""
    found = {"": []}
    waiting = [""]
    while waiting:
        string = waiting.pop()
        for name, word in book.words().items():
            if len(string + word) <= longest:
                found[string + word] = found[string] + [name]
                waiting.append(string + word)
    return found


def longest_start(found, string):
    """The longest start of a string that can be decoded."""
    return max((start for start in found if string.startswith(start)), key=len)


class EncodeTest(unittest.TestCase):
    def test_example(self):
        self.assertEqual(encode(BOOK, ["a", "c", "b"]), "011010")

    def test_lists_and_tuples(self):
        self.assertEqual(encode(BOOK, ("a", "c", "b")), "011010")
        self.assertEqual(encode(BOOK, ["c"]), "110")
        self.assertEqual(encode(BOOK, ["b", "b", "a", "b"]), "1010010")
        self.assertEqual(encode(BOOK, ["a"] * 1000), "0" * 1000)
        self.assertEqual(encode(RESERVING, ["c", "bb", "a"]), "202120")

    def test_no_names(self):
        for book in (BOOK, Codebook(2, 3, {}), Codebook(4, 6, {}, ["3"])):
            self.assertEqual(encode(book, []), "")
            self.assertEqual(encode(book, ()), "")

    def test_by_name(self):
        self.assertEqual(encode(names=["b"], book=BOOK), "10")

    def test_unknown_names(self):
        for thing in ODD_THINGS + EMPTY_THINGS + ("d", "ab", "A", "0", "10", ["a"], ("a",), {"a": "0"}):
            caught(self, UnknownName, encode, BOOK, [thing])
            caught(self, UnknownName, encode, BOOK, (thing,))
            caught(self, UnknownName, encode, BOOK, ["a", thing])
            caught(self, UnknownName, encode, BOOK, (thing, "a"))

    def test_no_list_or_tuple(self):
        for thing in ODD_THINGS + ("", {}, "a", "ab", "abc", "aa", {"a": "0"}, {"a": 1, "b": 2}):
            caught(self, UnknownName, encode, BOOK, thing)

    def test_book_without_names(self):
        caught(self, UnknownName, encode, Codebook(2, 3, {}), ["a"])
        caught(self, UnknownName, encode, Codebook(2, 3, {}, ["0"]), ["-"])

    def test_arguments_are_not_modified(self):
        names = ["c", "a", "b"]
        encode(BOOK, names)
        self.assertEqual(names, ["c", "a", "b"])
        wrong = ["c", "x", ["a"]]
        caught(self, UnknownName, encode, BOOK, wrong)
        self.assertEqual(wrong, ["c", "x", ["a"]])
        self.assertEqual(BOOK, Codebook(2, 3, {"a": "0", "b": "10", "c": "110"}))


class DecodeTest(unittest.TestCase):
    def position(self, book, digits):
        error = caught(self, DecodeError, decode, book, digits)
        self.assertIs(type(error.position), int)
        return error.position

    def test_example(self):
        self.assertEqual(self.position(BOOK, "0111"), 1)

    def test_ordinary(self):
        self.assertEqual(decode(BOOK, "011010"), ["a", "c", "b"])
        self.assertEqual(decode(BOOK, "110"), ["c"])
        self.assertEqual(decode(BOOK, "000"), ["a", "a", "a"])
        self.assertEqual(decode(RESERVING, "202120"), ["c", "bb", "a"])

    def test_by_name(self):
        self.assertEqual(decode(digits="10", book=BOOK), ["b"])

    def test_empty_string(self):
        for book in (BOOK, RESERVING, Codebook(2, 3, {}), Codebook(4, 6, {}, ["3"])):
            self.assertEqual(decode(book, ""), [])

    def test_positions(self):
        self.assertEqual(self.position(BOOK, "1"), 0)
        self.assertEqual(self.position(BOOK, "11"), 0)
        self.assertEqual(self.position(BOOK, "111"), 0)
        self.assertEqual(self.position(BOOK, "1110"), 0)
        self.assertEqual(self.position(BOOK, "01"), 1)
        self.assertEqual(self.position(BOOK, "10011"), 3)
        self.assertEqual(self.position(BOOK, "11010111000"), 5)
        self.assertEqual(self.position(RESERVING, "02021200111"), 8)

    def test_reserved_strings_are_no_codewords(self):
        self.assertEqual(self.position(RESERVING, "111"), 0)
        self.assertEqual(self.position(RESERVING, "021"), 1)
        self.assertEqual(self.position(Codebook(2, 1, {}, ["0"]), "0"), 0)

    def test_book_without_names(self):
        for digits in ("0", "1", "01", "000000"):
            self.assertEqual(self.position(Codebook(2, 3, {}), digits), 0)

    def test_wrong_characters(self):
        for part in WRONG_PARTS:
            self.assertEqual(self.position(BOOK, part), 0 if part != "0 1" else 1, part)
            self.assertEqual(self.position(BOOK, "1100" + part), 4 if part != "0 1" else 5, part)
        self.assertEqual(self.position(BOOK, "0\n"), 1)
        self.assertEqual(self.position(BOOK, "10 "), 2)

    def test_no_string(self):
        for thing in ODD_THINGS + ([], (), {}, ["0"], ("0", "10"), ["0", "10"], {"0": 0}, b"0", 110, 0):
            if not isinstance(thing, str):
                self.assertEqual(self.position(BOOK, thing), 0, thing)

    def test_every_short_string(self):
        for book in small_codes():
            found = lists_by_string(book, 5)
            for digits in strings_of("0123"[:book.radix] + "4", 5 if book.radix == 2 else 3):
                if digits in found:
                    self.assertEqual(decode(book, digits), found[digits])
                    self.assertEqual(encode(book, found[digits]), digits)
                else:
                    self.assertEqual(self.position(book, digits), len(longest_start(found, digits)))

    def test_round_trip_of_full_books(self):
        for radix, depth in product(range(2, 5), range(1, 7)):
            book = full_book(radix, depth)
            names = sorted(book.words(), reverse=True)
            digits = encode(book, names)
            self.assertEqual(len(digits), depth * radix ** depth)
            self.assertEqual(decode(book, digits), names)
            self.assertEqual(self.position(book, digits + "x"), len(digits))

    def test_long_strings(self):
        self.assertEqual(decode(BOOK, "10" * 50000), ["b"] * 50000)
        self.assertEqual(self.position(BOOK, "10" * 20000 + "1" * 60000), 40000)

    def test_results_are_new(self):
        first = decode(BOOK, "010")
        first.append("x")
        self.assertEqual(decode(BOOK, "010"), ["a", "b"])


class DecoderTest(unittest.TestCase):
    def position(self, decoder, digits):
        """The position of the error; the decoder must stay as it was."""
        before = decoder.pending()
        error = caught(self, DecodeError, decoder.feed, digits)
        self.assertIs(type(error.position), int)
        self.assertEqual(decoder.pending(), before)
        return error.position

    def test_example(self):
        decoder = Decoder(BOOK)
        self.assertEqual(decoder.feed("01"), ["a"])
        self.assertEqual(decoder.feed("101"), ["c"])
        self.assertEqual(decoder.pending(), "1")

    def test_start(self):
        decoder = Decoder(BOOK)
        self.assertEqual(decoder.pending(), "")
        self.assertEqual(decoder.feed(""), [])
        self.assertEqual(decoder.pending(), "")

    def test_by_name(self):
        decoder = Decoder(book=BOOK)
        self.assertEqual(decoder.feed(digits="0"), ["a"])

    def test_digit_by_digit(self):
        decoder = Decoder(BOOK)
        steps = [decoder.feed(digit) + [decoder.pending()] for digit in "1101001"]
        self.assertEqual(steps, [["1"], ["11"], ["c", ""], ["1"], ["b", ""], ["a", ""], ["1"]])

    def test_empty_part_keeps_what_is_pending(self):
        decoder = Decoder(BOOK)
        decoder.feed("011")
        self.assertEqual(decoder.feed(""), [])
        self.assertEqual(decoder.pending(), "11")
        self.assertEqual(decoder.feed("0"), ["c"])

    def test_positions(self):
        decoder = Decoder(BOOK)
        self.assertEqual(self.position(decoder, "111"), 0)
        self.assertEqual(self.position(decoder, "0111"), 1)
        self.assertEqual(self.position(decoder, "2"), 0)
        self.assertEqual(decoder.feed("0101"), ["a", "b"])
        self.assertEqual(self.position(decoder, "11"), 3)
        self.assertEqual(self.position(decoder, "2"), 3)
        self.assertEqual(self.position(decoder, "0 "), 5)
        self.assertEqual(self.position(decoder, "100111"), 7)
        self.assertEqual(self.position(decoder, None), 3)
        self.assertEqual(decoder.feed("1"), [])
        self.assertEqual(self.position(decoder, "1"), 3)
        self.assertEqual(self.position(decoder, ["0"]), 3)
        self.assertEqual(decoder.feed("0"), ["c"])
        self.assertEqual(self.position(decoder, 0), 6)
        self.assertEqual(self.position(decoder, "x"), 6)
        self.assertEqual(decoder.feed("0"), ["a"])
        self.assertEqual(decoder.pending(), "")

    def test_error_behind_completed_codewords_drops_none_of_them(self):
        decoder = Decoder(BOOK)
        decoder.feed("1")
        self.assertEqual(self.position(decoder, "0011x"), 3)
        self.assertEqual(decoder.feed("0011"), ["b", "a"])
        self.assertEqual(decoder.pending(), "11")

    def test_no_string(self):
        for thing in ODD_THINGS + ([], (), {}, ["0"], ("0",), {"0": 0}, b"0"):
            if not isinstance(thing, str):
                decoder = Decoder(BOOK)
                self.assertEqual(self.position(decoder, thing), 0, thing)
                decoder.feed("101")
                self.assertEqual(self.position(decoder, thing), 2, thing)
                self.assertEqual(decoder.feed("0"), ["b"])

    def test_wrong_characters(self):
        for part in WRONG_PARTS:
            decoder = Decoder(BOOK)
            decoder.feed("1001")
            self.assertEqual(self.position(decoder, part), 3 + 2 * (part == "0 1"), part)

    def test_what_can_be_continued(self):
        decoder = Decoder(Codebook(2, 4, {"a": "0000", "b": "01"}, ["1"]))
        self.assertEqual(self.position(decoder, "1"), 0)
        self.assertEqual(decoder.feed("000"), [])
        self.assertEqual(self.position(decoder, "1"), 0)
        self.assertEqual(decoder.feed("00"), ["a"])
        self.assertEqual(self.position(decoder, "11"), 6)
        self.assertEqual(decoder.pending(), "0")
        self.assertEqual(decoder.feed("10"), ["b"])
        self.assertEqual(decoder.pending(), "0")

    def test_reserved_strings_are_no_codewords(self):
        decoder = Decoder(RESERVING)
        self.assertEqual(self.position(decoder, "11"), 0)
        self.assertEqual(self.position(decoder, "021"), 1)
        self.assertEqual(decoder.feed("020"), ["a"])
        self.assertEqual(decoder.pending(), "20")

    def test_book_without_names(self):
        for book in (Codebook(2, 3, {}), Codebook(2, 3, {}, ["00"])):
            decoder = Decoder(book)
            self.assertEqual(decoder.feed(""), [])
            self.assertEqual(self.position(decoder, "0"), 0)
            self.assertEqual(decoder.pending(), "")

    def test_copies_are_independent(self):
        decoder = Decoder(BOOK)
        decoder.feed("01")
        twin = decoder.copy()
        self.assertIs(type(twin), Decoder)
        self.assertIsNot(twin, decoder)
        self.assertEqual(twin.pending(), "1")
        self.assertEqual(self.position(twin, "x"), 1)
        self.assertEqual(decoder.feed("10"), ["c"])
        self.assertEqual(twin.pending(), "1")
        self.assertEqual(twin.feed("01"), ["b"])
        self.assertEqual((decoder.pending(), twin.pending()), ("", "1"))
        self.assertEqual((self.position(decoder, None), self.position(twin, None)), (4, 3))
        third = twin.copy()
        self.assertEqual(third.feed("0"), ["b"])
        self.assertEqual((twin.pending(), third.pending()), ("1", ""))

    def test_results_are_new(self):
        decoder = Decoder(BOOK)
        names = decoder.feed("01")
        names.append("x")
        self.assertEqual(decoder.feed("0"), ["b"])
        self.assertEqual(decoder.feed(""), [])

    def test_every_short_string_in_two_parts(self):
        for book in small_codes():
            found = lists_by_string(book, 5)
            starts = {string[:end] for string in found for end in range(len(string) + 1)}
            for digits in strings_of("0123"[:book.radix] + "4", 4 if book.radix == 2 else 3):
                for cut in range(len(digits) + 1):
                    self.check_two_parts(book, found, starts, digits[:cut], digits[cut:])

    def check_two_parts(self, book, found, starts, first, second):
        decoder = Decoder(book)
        if first not in starts:
            self.assertEqual(self.position(decoder, first), len(longest_start(found, first)))
            return
        done = longest_start(found, first)
        self.assertEqual(decoder.feed(first), found[done])
        self.assertEqual(decoder.pending(), first[len(done):])
        whole = longest_start(found, first + second)
        if first + second not in starts:
            self.assertEqual(self.position(decoder, second), len(whole))
        else:
            self.assertEqual(decoder.feed(second), found[whole][len(found[done]):])
            self.assertEqual(decoder.pending(), (first + second)[len(whole):])

    def test_full_books_digit_by_digit(self):
        for radix, depth in product(range(2, 5), (1, 3, 5)):
            book = full_book(radix, depth)
            names = list(book.words())
            decoder = Decoder(book)
            fed = []
            for digit in encode(book, names):
                fed.extend(decoder.feed(digit))
            self.assertEqual(fed, names)
            self.assertEqual(decoder.pending(), "")
            self.assertEqual(self.position(decoder, str(radix)), depth * radix ** depth)


if __name__ == "__main__":
    unittest.main()
