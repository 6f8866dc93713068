"""Exchanges: [2], [11] (sixth item), [29], [30]."""

import unittest
from itertools import permutations, product
from random import Random

from keptcode.cheapest import cheapest
from keptcode.codebooks import Codebook
from keptcode.errors import InvalidExchange
from keptcode.symmetry import alike, relabel
from tests import by_rules, by_words, drawn
from tests.things import ODD_THINGS, caught, fresh, full_book, small_books, strings_of

SHAPES = list(product(range(2, 5), range(1, 7)))


def example():
    return Codebook(2, 3, {"a": "0", "b": "10", "c": "110"})


def drawn_exchange(draw, radix, depth, share):
    """An exchange with about this share of all keys, in tenths, in no order."""
    keys = [node for node in strings_of("0123"[:radix], depth - 1) if draw.randrange(10) < share]
    draw.shuffle(keys)
    return {key: "".join(draw.sample("0123"[:radix], radix)) for key in keys}


def by_hand(book, exchange):
    words = {name: by_rules.exchanged(exchange, word) for name, word in book.words().items()}
    return Codebook(book.radix, book.depth, words, [by_rules.exchanged(exchange, node) for node in book.reserved()])


class ExampleTest(unittest.TestCase):
    def test_relabel(self):
        self.assertEqual(str(relabel(example(), {"": "10"}).words()), "{'a': '1', 'b': '00', 'c': '010'}")

    def test_alike(self):
        self.assertIs(alike(example(), Codebook(2, 3, {"a": "0", "b": "110", "c": "10"})), None)


class RelabelTest(unittest.TestCase):
    def agrees(self, book, exchange):
        found = fresh(self, relabel, book, exchange)
        self.assertEqual(found, by_hand(book, exchange))
        return found

    def test_every_exchange_of_a_small_codebook(self):
        for exchange in by_rules.exchanges(2, 3):
            self.agrees(example(), exchange)
            self.agrees(Codebook(2, 3, {"a": "001"}, ["000", "1"]), exchange)
            self.agrees(Codebook(2, 3, {"a": "00"}, ["11", "010"]), {key: exchange[key] for key in sorted(exchange)[::2]})
        for exchange in by_rules.exchanges(3, 2)[::5]:
            self.agrees(Codebook(3, 2, {"a": "0", "b": "12", "c": "10"}, ["21"]), exchange)
        for exchange in by_rules.exchanges(4, 1):
            self.agrees(Codebook(4, 1, {"a": "0", "b": "3"}, ["2"]), exchange)

    def test_drawn_exchanges(self):
        draw = Random(29)
        for radix, depth in SHAPES:
            for share in (0, 2, 5, 9, 10):
                book = drawn.book(draw, radix, depth, 12)
                self.agrees(book, drawn_exchange(draw, radix, depth, share))

    def test_full_codebooks(self):
        draw = Random(30)
        for radix, depth in SHAPES:
            book = full_book(radix, depth)
            found = self.agrees(book, drawn_exchange(draw, radix, depth, 8))
            self.assertEqual(sorted(found.words().values()), sorted(book.words().values()))

    def test_empty_exchange(self):
        for radix, depth in SHAPES:
            for book in (Codebook(radix, depth, {}), Codebook(radix, depth, {"a": "0"}, ["1"]), full_book(radix, depth)):
                self.assertEqual(relabel(book, {}), book)

    def test_root_alone(self):
        for radix, depth in SHAPES:
            book = Codebook(radix, depth, {"a": "0" * depth, "b": "1"}, [digit for digit in "23"[:radix - 2]])
            for order in permutations("0123"[:radix]):
                found = self.agrees(book, {"": "".join(order)})
                self.assertEqual(found.words(), {"a": order[0] + "0" * (depth - 1), "b": order[1]})
                self.assertEqual(found.reserved(), tuple(sorted(order[2:])))

    def test_prefixes_are_of_the_old_string(self):
        book = Codebook(3, 3, {"a": "012", "b": "120"})
        self.assertEqual(relabel(book, {"": "120", "0": "201"}).words(), {"a": "102", "b": "220"})
        self.assertEqual(relabel(book, {"": "120", "1": "201"}).words(), {"a": "112", "b": "210"})
        self.assertEqual(relabel(book, {"01": "021", "12": "210"}).words(), {"a": "011", "b": "122"})

    def test_values_send_an_index_to_a_character(self):
        # The order "120" and its inverse "201" are different.
        book = Codebook(3, 1, {"a": "0", "b": "1", "c": "2"})
        self.assertEqual(relabel(book, {"": "120"}).words(), {"a": "1", "b": "2", "c": "0"})
        self.assertEqual(relabel(book, {"": "201"}).words(), {"a": "2", "b": "0", "c": "1"})

    def test_deep_and_unused_prefixes(self):
        book = Codebook(2, 6, {"a": "101010", "b": "0"}, ["1011"])
        self.assertEqual(relabel(book, {"10101": "10"}).words(), {"a": "101011", "b": "0"})
        self.assertEqual(relabel(book, {"0": "10", "01": "10", "11111": "10", "00000": "01", "1011": "10"}), book)
        self.assertEqual(relabel(book, {"101": "10"}), Codebook(2, 6, {"a": "101110", "b": "0"}, ["1010"]))

    def test_radix_depth_and_names_stay(self):
        found = relabel(Codebook(4, 5, {"b": "31", "a": "2"}, ["30", "0"]), {"": "3210"})
        self.assertEqual((found.radix, found.depth), (4, 5))
        self.assertEqual(list(found.words().items()), [("a", "1"), ("b", "01")])
        self.assertEqual(found.reserved(), ("00", "3"))

    def test_later_changes(self):
        exchange = {"": "10"}
        found = relabel(example(), exchange)
        exchange.clear()
        self.assertEqual(found.codeword("a"), "1")

    def test_by_name(self):
        self.assertEqual(relabel(exchange={"": "10"}, book=example()).codeword("a"), "1")


class WrongExchangeTest(unittest.TestCase):
    def refused(self, book, thing):
        caught(self, InvalidExchange, relabel, book, thing)

    def test_other_things(self):
        for book in (example(), Codebook(4, 1, {}), full_book(3, 6)):
            for thing in ODD_THINGS + ("", [], (), "10", ["", "10"], ("", "10"), [("", "10")], (("", "10"),)):
                self.refused(book, thing)

    def test_keys(self):
        for radix, depth in SHAPES:
            digits = "0123"[:radix]
            for book in (Codebook(radix, depth, {}), Codebook(radix, depth, {"a": "0"})):
                for size in range(9):
                    for key in ("0" * size, digits[-1] * size):
                        if size < depth:
                            self.assertEqual(relabel(book, {key: digits}), book)
                        else:
                            self.refused(book, {key: digits})
                            self.refused(book, {"": digits, key: digits})
                wrong = (str(radix), "0" + str(radix), "9", "a", " ", "-", "\n", "0\n", "0 ", 0, 1, -1, 7, 10 ** 39)
                for key in wrong:
                    self.refused(book, {key: digits})
                    self.refused(book, {"": digits[::-1], key: digits})
                    self.refused(book, {key: digits, "": digits})

    def test_values(self):
        for radix, depth in SHAPES:
            book = Codebook(radix, depth, {"a": "0"})
            digits = "0123"[:radix]
            for order in strings_of("01234", 3) + ["".join(signs) for signs in product("0123", repeat=4)]:
                if sorted(order) == list(digits):
                    self.assertEqual(relabel(book, {"": order}), by_hand(book, {"": order}))
                else:
                    self.refused(book, {"": order})
            values = (digits + digits[0], digits + " ", digits + "\n", " " + digits, digits[:-1], digits[:-1] + "4",
                      tuple(digits), list(digits), {digit: digit for digit in digits}, int(digits[::-1]), digits * 2,
                      "0123456789", tuple(range(radix)), list(range(radix)))
            for value in ODD_THINGS + values + ("", [], (), {}):
                self.refused(book, {"": value})
                if depth > 1:
                    self.refused(book, {"": digits, "1": value})
                    self.refused(book, {"1": value, "": digits})

    def test_nothing_has_changed(self):
        book = example()
        caught(self, InvalidExchange, relabel, book, {"": "10", "1": "00"})
        self.assertEqual(book, example())


class AlikeTest(unittest.TestCase):
    def checked(self, book, other):
        found = fresh(self, alike, book, other)
        if found is None:
            return False
        self.assertIs(type(found), dict)
        self.assertEqual(relabel(book, found), other, (book.words(), book.reserved(), other.words(), other.reserved()))
        return True

    def agrees(self, book, others, exchanges):
        """Compare with all codebooks into which an exchange turns a codebook."""
        images = [by_hand(book, exchange) for exchange in exchanges]
        for other in others:
            self.assertEqual(self.checked(book, other), other in images)

    def test_all_pairs_of_small_codebooks(self):
        for radix, depth, names, step in ((2, 1, "ab", 1), (3, 1, "a", 1), (4, 1, "a", 1), (2, 2, "a", 1), (2, 2, "ab", 5)):
            books = [Codebook(radix, depth, words, reserved) for words, reserved in small_books(radix, depth, names)]
            exchanges = by_rules.exchanges(radix, depth)
            for book in books[::step]:
                self.agrees(book, books, exchanges)

    def test_all_pairs_of_deeper_codebooks(self):
        exchanges = by_rules.exchanges(2, 3)
        books = by_words.books(2, 3, 2)
        for book in books[::7]:
            self.agrees(book, books, exchanges)

    def test_relabelled_codebooks_are_alike(self):
        draw = Random(31)
        for radix, depth in SHAPES:
            for tries in (3, 10, 25):
                book = drawn.book(draw, radix, depth, tries)
                self.assertTrue(self.checked(book, relabel(book, drawn_exchange(draw, radix, depth, 9))))
                self.assertTrue(self.checked(book, book))
            book = full_book(radix, depth)
            self.assertTrue(self.checked(book, relabel(book, drawn_exchange(draw, radix, depth, 9))))

    def test_reserved_strings_alone(self):
        draw = Random(32)
        for radix, depth in SHAPES:
            for _ in range(5):
                book = Codebook(radix, depth, {}, drawn.nodes(draw, radix, depth, 12))
                self.assertTrue(self.checked(book, relabel(book, drawn_exchange(draw, radix, depth, 9))))

    def test_nothing_at_all(self):
        for radix, depth in SHAPES:
            empty = Codebook(radix, depth, {})
            self.assertTrue(self.checked(empty, Codebook(radix, depth, {})))
            for other in (Codebook(radix, depth, {"a": "0"}), Codebook(radix, depth, {}, ["0"])):
                self.assertIs(alike(empty, other), None)
                self.assertIs(alike(other, empty), None)

    def test_nearly_alike(self):
        book = Codebook(2, 4, {"a": "000", "b": "01"}, ["1100", "1101"])
        for words, reserved in (
            ({"a": "000", "b": "01"}, ["1100"]), ({"a": "000", "b": "01"}, ["1100", "1111"]),
            ({"a": "000", "b": "01"}, ["1100", "1001"]), ({"a": "00", "b": "01"}, ["1100", "1101"]),
            ({"a": "01", "b": "000"}, ["1100", "1101"]), ({"a": "000", "c": "01"}, ["1100", "1101"]),
            ({"a": "000", "b": "10"}, ["1100", "1101"]), ({"a": "000"}, ["01", "1100", "1101"]),
            ({"a": "000", "b": "01", "c": "10"}, ["1100", "1101"]), ({"a": "000", "b": "01", "c": "1100"}, ["1101"]),
            ({"a": "000", "b": "01"}, ["110"]), ({"a": "0000", "b": "01"}, ["1100", "1101"]),
        ):
            self.assertIs(alike(book, Codebook(2, 4, words, reserved)), None, (words, reserved))
            self.assertIs(alike(Codebook(2, 4, words, reserved), book), None, (words, reserved))
        self.assertTrue(self.checked(book, Codebook(2, 4, {"a": "111", "b": "10"}, ["0101", "0100"])))
        self.assertTrue(self.checked(book, Codebook(2, 4, {"a": "101", "b": "11"}, ["0010", "0011"])))

    def test_names_are_not_reserved_strings(self):
        self.assertIs(alike(Codebook(2, 1, {"a": "0"}, ["1"]), Codebook(2, 1, {"a": "0", "b": "1"})), None)
        self.assertIs(alike(Codebook(2, 2, {"a": "0"}, ["10"]), Codebook(2, 2, {"a": "10"}, ["0"])), None)

    def test_subtrees_with_the_same_names_elsewhere(self):
        # The same names and lengths, but other names share a parent.
        one = Codebook(2, 2, {"a": "00", "b": "01", "c": "10", "d": "11"})
        self.assertIs(alike(one, Codebook(2, 2, {"a": "00", "c": "01", "b": "10", "d": "11"})), None)
        self.assertTrue(self.checked(one, Codebook(2, 2, {"d": "00", "c": "01", "b": "10", "a": "11"})))
        long_names = Codebook(2, 2, {"aa": "00", "a": "01", "aaa": "10"})
        self.assertIs(alike(long_names, Codebook(2, 2, {"aaa": "00", "a": "01", "aa": "10"})), None)
        self.assertTrue(self.checked(long_names, Codebook(2, 2, {"a": "10", "aa": "11", "aaa": "01"})))

    def test_same_sizes_of_other_shape(self):
        one = Codebook(2, 3, {}, ["000", "001", "010", "100"])
        self.assertTrue(self.checked(one, Codebook(2, 3, {}, ["111", "110", "100", "011"])))
        self.assertIs(alike(one, Codebook(2, 3, {}, ["000", "010", "100", "110"])), None)
        self.assertIs(alike(one, Codebook(2, 3, {}, ["000", "001", "100", "101"])), None)

    def test_other_radix_or_depth(self):
        for one, other in product(SHAPES, SHAPES):
            found = alike(Codebook(*one, {"a": "0"}), Codebook(*other, {"a": "0"}))
            self.assertEqual(found is None, one != other)
            self.assertEqual(alike(Codebook(*one, {}), Codebook(*other, {})) is None, one != other)

    def test_by_name(self):
        self.assertIs(alike(other=Codebook(2, 3, {}), book=example()), None)
        found = alike(other=Codebook(2, 3, {"a": "1", "b": "00", "c": "011"}), book=example())
        self.assertEqual(relabel(example(), found).words(), {"a": "1", "b": "00", "c": "011"})

    def test_order_of_keys_does_not_matter(self):
        words = {"a": "0", "b": "10", "c": "110"}
        other = Codebook(2, 3, {"c": "010", "a": "1", "b": "00"})
        wanted = alike(example(), other)
        for order in permutations(words):
            self.assertEqual(alike(Codebook(2, 3, {name: words[name] for name in order}), other), wanted)


class GuaranteeTest(unittest.TestCase):
    def test_exchanges_do_not_change_the_least_price(self):
        draw = Random(33)
        for radix, depth in ((2, 3), (2, 5), (3, 3), (4, 2), (4, 4)):
            for _ in range(25):
                book = drawn.book(draw, radix, depth, 12)
                request, prices = drawn.request(draw, book, 3), drawn.prices(draw, book)
                found = cheapest(book, request, prices)
                other = cheapest(relabel(book, drawn_exchange(draw, radix, depth, 9)), request, prices)
                self.assertEqual(found and found[0], other and other[0])


if __name__ == "__main__":
    unittest.main()
