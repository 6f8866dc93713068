"""The text format: [2], [14], [15]."""

import unittest
from itertools import product

from keptcode.codebooks import Codebook
from keptcode.errors import ParseError
from keptcode.text import format_codebook, parse_codebook
from tests.things import EMPTY_THINGS, ODD_THINGS, caught, full_book, small_books


class FormatTest(unittest.TestCase):
    def test_example(self):
        book = Codebook(2, 3, {"a": "0", "b": "10"}, ("111",))
        self.assertEqual(format_codebook(book), "2 3\na 0\nb 10\n- 111")

    def test_no_names(self):
        for radix, depth in product(range(2, 5), range(1, 7)):
            self.assertEqual(format_codebook(Codebook(radix, depth, {})), f"{radix} {depth}")

    def test_reserved_strings_alone(self):
        self.assertEqual(format_codebook(Codebook(4, 6, {}, ["3", "210", "20"])), "4 6\n- 20\n- 210\n- 3")

    def test_names_and_strings_ascend(self):
        book = Codebook(3, 4, {"z": "00", "abcdefgh": "2222", "ab": "01", "b": "1"}, ["210", "20", "2221"])
        self.assertEqual(format_codebook(book), "3 4\nab 01\nabcdefgh 2222\nb 1\nz 00\n- 20\n- 210\n- 2221")

    def test_by_name(self):
        self.assertEqual(format_codebook(book=Codebook(2, 1, {"a": "1"})), "2 1\na 1")


class ParseTest(unittest.TestCase):
    def line(self, text):
        error = caught(self, ParseError, parse_codebook, text)
        self.assertIs(type(error.line), int)
        return error.line

    def test_example(self):
        self.assertEqual(self.line("2 3\nb 0\na 10"), 2)

    def test_ordinary(self):
        book = parse_codebook("2 3\na 0\nb 10\n- 111")
        self.assertIs(type(book), Codebook)
        self.assertEqual((book.radix, book.depth), (2, 3))
        self.assertEqual(list(book.words().items()), [("a", "0"), ("b", "10")])
        self.assertEqual(book.reserved(), ("111",))

    def test_by_name(self):
        self.assertEqual(parse_codebook(text="2 1\na 1"), Codebook(2, 1, {"a": "1"}))

    def test_round_trip(self):
        for radix, depth, names in ((2, 1, "abc"), (2, 2, "ab"), (3, 1, "abc"), (4, 1, "ab")):
            for words, reserved in small_books(radix, depth, names):
                book = Codebook(radix, depth, words, reserved)
                self.assertEqual(parse_codebook(format_codebook(book)), book)

    def test_round_trip_of_full_books(self):
        for radix, depth in product(range(2, 5), range(1, 7)):
            book = full_book(radix, depth)
            text = format_codebook(book)
            self.assertEqual(parse_codebook(text), book)
            self.assertEqual(self.line(text + "\n"), len(book) + 1)
            self.assertEqual(self.line(text + "\n- 0"), len(book) + 1)
            self.assertEqual(self.line(text + "\nzzzzz " + "0" * depth), len(book) + 1)

    def test_first_line(self):
        for radix, depth in product(range(-1, 12), range(-1, 12)):
            text = f"{radix} {depth}"
            if 2 <= radix <= 4 and 1 <= depth <= 6:
                self.assertEqual(parse_codebook(text), Codebook(radix, depth, {}))
            else:
                self.assertEqual(self.line(text), 0)
                self.assertEqual(self.line(text + "\na 0"), 0)

    def test_wrong_first_lines(self):
        for head in (
            "", " ", "2", "3", "2 ", " 3", "2  3", " 2 3", "2 3 ", "2 3 4", "23", "2\t3", "2 3\t", "02 3", "2 03",
            "+2 3", "2 +3", "2 3.", "2.0 3", "2,3", "a 0", "- 0", "a", "two 3", "2 x", "x 3", "2 - 3", "2_ 3",
        ):
            self.assertEqual(self.line(head), 0, head)
            self.assertEqual(self.line(head + "\na 0"), 0, head)
            self.assertEqual(self.line(head + "\n"), 0, head)

    def test_wrong_lines(self):
        for line in (
            "", " ", "a", "a ", " 0", "0", "a  0", " a 0", "a 0 ", "a 0 0", "a\t0", "a 0\t", "a 2", "a 0000", "a 0a",
            "A 0", "a1 0", "abcdefghi 0", "-", "- ", "-0", "-- 0", "- 2", "- 0000", " - 0", "- 0 ", "-  0", "- a",
            "* 0", "0 0", "2 3", "a -", "a 0,b 1", "a 0 / b 1",
        ):
            self.assertEqual(self.line("2 3\n" + line), 1, line)
            self.assertEqual(self.line("2 3\n" + line + "\nz 1"), 1, line)
            self.assertEqual(self.line("2 3\na 10\n" + line), 2, line)
            self.assertEqual(self.line("2 3\na 10\nb 110\n- 111\n" + line), 4, line)

    def test_order_of_lines(self):
        self.assertEqual(self.line("2 3\nb 0\na 10\nc 11"), 2)
        self.assertEqual(self.line("2 3\na 0\nc 10\nb 11"), 3)
        self.assertEqual(self.line("2 3\na 0\na 10"), 2)
        self.assertEqual(self.line("2 3\na 0\na 0"), 2)
        self.assertEqual(self.line("2 3\nab 0\na 10"), 2)
        self.assertEqual(self.line("2 3\n- 0\na 10"), 2)
        self.assertEqual(self.line("2 3\n- 10\n- 0"), 2)
        self.assertEqual(self.line("2 3\n- 0\n- 0"), 2)
        self.assertEqual(self.line("2 3\na 0\n- 10\nb 11\n- 111"), 3)
        self.assertEqual(parse_codebook("2 3\nb 10\nc 0\n- 110\n- 111").words(), {"b": "10", "c": "0"})

    def test_clashes(self):
        self.assertEqual(self.line("2 3\na 0\nb 0"), 2)
        self.assertEqual(self.line("2 3\na 0\nb 01"), 2)
        self.assertEqual(self.line("2 3\na 01\nb 0"), 2)
        self.assertEqual(self.line("2 3\na 010\nb 1\nc 0"), 3)
        self.assertEqual(self.line("2 3\na 0\nb 10\n- 0"), 3)
        self.assertEqual(self.line("2 3\na 0\nb 10\n- 1"), 3)
        self.assertEqual(self.line("2 3\na 0\nb 10\n- 100\n- 11"), 3)
        self.assertEqual(self.line("2 3\n- 0\n- 00"), 2)
        self.assertEqual(self.line("2 3\n- 00\n- 01\n- 010"), 3)

    def test_the_first_wrong_line_counts(self):
        self.assertEqual(self.line("2 3\na 0\nb 01\nx"), 2)
        self.assertEqual(self.line("2 3\na 0\nx\nb 01"), 2)
        self.assertEqual(self.line("2 3\nc 0\nb 0\nb 0"), 2)
        self.assertEqual(self.line("2 3\na 0\nb 0\na 1"), 2)
        self.assertEqual(self.line("2 3\na 0\nb 10\na 0"), 3)
        self.assertEqual(self.line("9 9\na 0\na 0"), 0)

    def test_line_feeds(self):
        self.assertEqual(self.line("2 3\n"), 1)
        self.assertEqual(self.line("\n2 3"), 0)
        self.assertEqual(self.line("2 3\na 0\n"), 2)
        self.assertEqual(self.line("2 3\n\na 0"), 1)
        self.assertEqual(self.line("2 3\n\n"), 1)
        self.assertEqual(self.line("\n"), 0)

    def test_other_things(self):
        for thing in ODD_THINGS + EMPTY_THINGS + (
            ["2 3"], ("2 3",), {"2 3": "a 0"}, ["2 3", "a 0"], Codebook(2, 3, {}), "x", "a 0",
        ):
            self.assertEqual(self.line(thing), 0, thing)

    def test_argument_is_not_modified(self):
        lines = ["2 3", "a 0"]
        self.assertEqual(self.line(lines), 0)
        self.assertEqual(lines, ["2 3", "a 0"])

    def test_every_short_text(self):
        results = [
            format_codebook(Codebook(2, 2, words, reserved)).split("\n")
            for words, reserved in small_books(2, 2, "ab")
        ]
        starts = {tuple(lines[:end]) for lines in results for end in range(len(lines) + 1)}
        parts = ["a 0", "a 10", "b 0", "b 00", "b 1", "- 0", "- 01", "- 10", "- 11", "", "- 2", "2 2"]
        for size in range(4):
            for chosen in product(parts, repeat=size):
                lines = ("2 2", *chosen)
                wrong = [at for at in range(len(lines)) if lines[:at + 1] not in starts]
                if wrong:
                    self.assertEqual(self.line("\n".join(lines)), wrong[0], lines)
                else:
                    self.assertEqual(format_codebook(parse_codebook("\n".join(lines))), "\n".join(lines))


if __name__ == "__main__":
    unittest.main()
