"""Options and cheapest plans: [2], [7] to [10], [11] (first, second item), [25], [26]."""

import unittest
from itertools import permutations, product
from random import Random

from keptcode.cheapest import cheapest, options
from keptcode.codebooks import Codebook
from keptcode.errors import InvalidPrices, InvalidRequest, TooLarge
from keptcode.plans import is_plan, make_plan, plan_price
from tests import by_words, drawn
from tests.things import WRONG_PRICES, caught, fresh, full_book, wrong_requests

SHAPES = list(product(range(2, 5), range(1, 7)))
BOTH = (options, cheapest)
PRICE_TABLES = (
    {}, {name: 1 for name in by_words.NAMES}, {name: 999 for name in by_words.NAMES},
    {name: at + 1 for at, name in enumerate(by_words.NAMES)}, {"a": 5}, {"c": 2, "a": 1, "z": 3},
)
TWELVE = ["ab", "bb", "cb", "db", "eb", "fb", "gb", "hb", "ib", "jb", "kb", "lb"]


def example():
    return Codebook(2, 3, {"a": "000", "b": "010", "c": "100"})


def deep_book(words, names=TWELVE, reserved=()):
    return Codebook(4, 6, dict(zip(names, words)), reserved)


class ExampleTest(unittest.TestCase):
    def test_options(self):
        table = options(Codebook(2, 2, {"a": "00", "b": "1"}), {}, {"a": 5})
        self.assertEqual(table, {
            "": [(True, (1, 0), 5), (True, (1, 1), 0)],
            "0": [(False, (0,), 5), (True, (1,), 0)],
            "00": [(False, (), 5), (True, (), 0)],
            "1": [(True, (0,), 0)],
        })

    def test_cheapest(self):
        self.assertEqual(cheapest(example(), {"d": 1}, {"a": 1, "b": 1, "c": 3}),
                         (2, {"a": "101", "b": "110", "d": "0"}))
        self.assertIs(cheapest(example(), {"d": 1}, {"a": 1}), None)

    def test_options_of_the_example(self):
        table = options(example(), {"d": 1}, {"a": 1, "b": 1, "c": 3})
        self.assertEqual(table["00"], [(False, (0,), 1), (True, (1,), 0)])
        self.assertEqual(table["0"], [(False, (0, 0), 2), (True, (1, 1), 1), (True, (1, 2), 0)])
        self.assertEqual(table["1"], [(False, (0, 0), 3), (True, (1, 1), 0)])
        self.assertEqual(table[""], [
            (False, (0, 0, 0), 5), (True, (1, 1, 1), 2), (True, (1, 2, 2), 1), (True, (1, 2, 3), 0),
        ])


class OptionsTest(unittest.TestCase):
    def agrees(self, book, request, prices):
        table = options(book, request, prices)
        self.assertIs(type(table), dict)
        self.assertEqual(set(table), by_words.option_nodes(book, request))
        for node, found in table.items():
            wanted = by_words.uncovered_options(book, request, prices, node)
            self.assertEqual(found, wanted, (book.words(), book.reserved(), request, prices, node))
            self.assert_kinds(found)

    def assert_kinds(self, found):
        self.assertIs(type(found), list)
        for one in found:
            self.assertIs(type(one), tuple)
            self.assertEqual([type(part) for part in one], [bool, tuple, int])
            self.assertTrue(all(type(count) is int for count in one[1]))

    def test_every_small_codebook(self):
        for radix, depth, most in ((2, 1, 2), (2, 2, 4), (3, 1, 3), (4, 1, 4)):
            for book in by_words.books(radix, depth, most):
                for request in by_words.requests_over("az", depth, 2):
                    for prices in PRICE_TABLES:
                        self.agrees(book, request, prices)

    def test_larger_codebooks(self):
        for radix, depth, most in ((2, 3, 3), (3, 2, 3)):
            for book in by_words.books(radix, depth, most):
                for request, prices in product(({}, {"z": 1}, {"c": 2}, {"c": 1, "a": 2}), PRICE_TABLES[1::2]):
                    self.agrees(book, request, prices)

    def test_drawn_codebooks(self):
        draw = Random(31)
        for radix, depth in ((2, 4), (2, 5), (3, 3), (4, 3), (3, 4)):
            for _ in range(12):
                book = drawn.book(draw, radix, depth, 9)
                self.agrees(book, drawn.request(draw, book, 3), drawn.prices(draw, book, draw.choice((2, 9, 999))))

    def test_full_trees(self):
        self.agrees(Codebook(2, 3, {"a": "0", "b": "100", "c": "101", "d": "11"}), {}, {"a": 1, "b": 2, "c": 3})
        for radix, depth in ((2, 1), (2, 2), (2, 3), (3, 1), (3, 2), (4, 1)):
            book = full_book(radix, depth)
            self.agrees(book, {}, {})
            self.agrees(book, {}, {name: at + 1 for at, name in enumerate(list(book.words())[:7])})
            self.agrees(book, {name: depth for name in book.words()}, {name: 4 for name in book.words()})

    def test_an_option_that_covers_in_one_part_only_stays(self):
        # Both recode one name: the cheaper one of them leaves more nodes touched.
        book = Codebook(2, 3, {"a": "000", "b": "001", "c": "100"})
        self.assertEqual(options(book, {}, {"a": 1, "b": 1, "c": 5})[""], [
            (False, (0, 0, 0), 7), (True, (1, 1, 1), 2), (True, (1, 2, 2), 0),
        ])

    def test_equal_options_are_listed_once(self):
        book = Codebook(2, 2, {"a": "00", "b": "01", "c": "10", "d": "11"})
        self.assertEqual(options(book, {}, {name: 1 for name in "abcd"}), {
            "": [(False, (0, 0), 4), (True, (1, 1), 2), (True, (1, 2), 0)],
            "0": [(False, (0,), 2), (True, (1,), 0)], "1": [(False, (0,), 2), (True, (1,), 0)],
            "00": [(False, (), 1), (True, (), 0)], "01": [(False, (), 1), (True, (), 0)],
            "10": [(False, (), 1), (True, (), 0)], "11": [(False, (), 1), (True, (), 0)],
        })

    def test_nothing_at_all(self):
        for radix, depth in SHAPES:
            empty = Codebook(radix, depth, {})
            for request, prices in product(({}, {"a": 1}), ({}, {"a": 1})):
                self.assertEqual(options(empty, request, prices), {"": [(False, (0,) * depth, 0)]})
            book = Codebook(radix, depth, {"a": "0", "b": "1" * depth})
            self.assertEqual(options(book, {"b": depth, "a": 1}, {"a": 3, "b": 4}), {"": [(False, (0,) * depth, 0)]})

    def test_one_leaf(self):
        for (radix, depth), length in product(SHAPES, range(1, 7)):
            if length <= depth:
                node = str(radix - 1) * length
                counts = (1,) * length + (0,) * (depth - length)
                wanted = {node[:size]: [(True, counts[size:], 0)] for size in range(length + 1)}
                for book, prices in (
                    (Codebook(radix, depth, {}, [node]), {}), (Codebook(radix, depth, {}, [node]), {"a": 2}),
                    (Codebook(radix, depth, {"a": node}), {}), (Codebook(radix, depth, {"a": node}), {"b": 2}),
                ):
                    self.assertEqual(options(book, {}, prices), wanted)
                    self.assertEqual(options(book, {"z": 1}, prices), wanted)
                none = (0,) * depth
                for size in range(length + 1):
                    wanted[node[:size]].insert(0, (False, none[size:], 7))
                self.assertEqual(options(Codebook(radix, depth, {"a": node}), {}, {"a": 7}), wanted)

    def test_twelve_names_below_one_another(self):
        words = ["0" * 4 + first + second for first in "012" for second in "0123"]
        book = deep_book(words, reserved=("1",))
        prices = {name: at + 1 for at, name in enumerate(TWELVE)}
        self.agrees(book, {}, prices)

    def test_twelve_names_far_apart(self):
        draw = Random(7)
        for levels in ([6], [5, 6], [3, 4, 5, 6]):
            words = drawn.nodes(draw, 4, 6, 60, levels)[:12]
            prices = {name: draw.randint(1, 999) for name in TWELVE}
            table = options(deep_book(words), {"z": 1}, prices)
            self.assertEqual(set(table), by_words.option_nodes(deep_book(words), {}))
            for found in table.values():
                self.assertEqual(found, sorted(set(found)))
                self.assertFalse(any(by_words.covers(one, two) for one, two in permutations(found, 2)))
            self.assertEqual(table[""][0], (False, (0,) * 6, sum(prices.values())))
            ends = [word for word in words]
            self.assertIn(by_words.option(deep_book(words), "", ends, 0), table[""])

    def test_lists_are_different_objects(self):
        for book in (example(), Codebook(2, 6, {"a": "000000"}, ("1",)), full_book(2, 4)):
            for prices in ({}, {"a": 1}):
                table = options(book, {"z": 1}, prices)
                self.assertEqual(len({id(found) for found in table.values()}), len(table))
                table[""].append("spoilt")
                self.assertFalse(any("spoilt" in found for node, found in table.items() if node))

    def test_results_are_new(self):
        book = example()
        again = fresh(self, options, book, {"d": 1}, {"a": 1, "b": 1, "c": 3})
        for found in again.values():
            found.clear()
        self.assertEqual(len(options(book, {"d": 1}, {"a": 1, "b": 1, "c": 3})[""]), 4)


class CheapestTest(unittest.TestCase):
    def agrees(self, book, request, prices):
        wanted = by_words.cheapest_plans(book, request, prices)
        found = cheapest(book, request, prices)
        if wanted is None:
            self.assertIs(found, None)
            return False
        price, plans = wanted
        self.assertIs(type(found), tuple)
        self.assertEqual(len(found), 2)
        self.assertEqual(found[0], price, (book.words(), book.reserved(), request, prices))
        self.assertIn(list(found[1].items()), [list(plan.items()) for plan in plans])
        return True

    def test_every_small_codebook(self):
        for radix, depth, most in ((2, 1, 2), (2, 2, 4), (3, 1, 3), (4, 1, 4)):
            for book in by_words.books(radix, depth, most):
                for request in by_words.requests_over("caz", depth, 3):
                    for prices in PRICE_TABLES[:4]:
                        self.agrees(book, request, prices)

    def test_larger_codebooks(self):
        for radix, depth, most in ((2, 3, 3), (3, 2, 3)):
            for book in by_words.books(radix, depth, most):
                for request in by_words.requests_over("cz", depth, 2):
                    self.agrees(book, request, {"c": 3, "a": 1, "d": 2})

    def test_drawn_codebooks(self):
        draw = Random(17)
        outcomes = []
        for radix, depth in ((2, 3), (2, 4), (2, 5), (2, 6), (3, 2), (3, 3), (3, 4), (4, 2), (4, 3)):
            for _ in range(25):
                book = drawn.book(draw, radix, depth, 12)
                request = drawn.request(draw, book, 3)
                outcomes.append(self.agrees(book, request, drawn.prices(draw, book, draw.choice((1, 3, 999)))))
        self.assertTrue(30 < sum(outcomes) < len(outcomes) - 30)

    def test_full_trees(self):
        for radix, depth in ((2, 1), (2, 2), (2, 3), (3, 1), (3, 2), (4, 1)):
            book = full_book(radix, depth)
            names = list(book.words())
            prices = {name: at + 1 for at, name in enumerate(names[:9])}
            for request in by_words.requests_over([names[0], names[-1], "z"], depth, 2):
                self.agrees(book, request, prices)
        book = Codebook(2, 3, {"a": "0", "b": "100", "c": "101", "d": "11"})
        for request in by_words.requests_over("abz", 3, 2):
            self.agrees(book, request, {"a": 4, "b": 3, "c": 2, "d": 1})

    def test_full_trees_of_every_shape(self):
        for radix, depth in SHAPES:
            book = full_book(radix, depth)
            names = list(book.words())
            self.assertEqual(cheapest(book, {}, {}), (0, {}))
            self.assertEqual(cheapest(book, {}, {name: 1 for name in names[:12]}), (0, {}))
            self.assertIs(cheapest(book, {"z": depth}, {name: 1 for name in names[:12]}), None)
            self.assertEqual(cheapest(book, {names[0]: depth}, {}), (0, {names[0]: "0" * depth}))
            self.assertEqual(cheapest(book, {name: depth for name in names}, {}), (0, book.words()))

    def test_price_is_never_more_than_needed(self):
        # One of the prices for "0" or the one for "1" must be paid.
        book = Codebook(2, 3, {"a": "000", "b": "010", "c": "100", "d": "111"})
        for one, two, three, four in product((1, 2, 3), repeat=4):
            prices = {"a": one, "b": two, "c": three, "d": four}
            self.assertEqual(cheapest(book, {"z": 1}, prices)[0], min(one + two, three + four))

    def test_twelve_names(self):
        words = ["0" * 5 + "0", "0" * 5 + "1", "0012", "0013", "01", "02", "030", "031", "1", "20", "21", "3"]
        book = deep_book(words)
        prices = {name: at + 1 for at, name in enumerate(TWELVE)}
        self.assertEqual(cheapest(book, {}, prices), (0, {}))
        for request in ({"z": 1}, {"y": 2, "z": 2}, {"z": 3, "y": 3, "x": 3}, {"ab": 1}, {"y": 4, "z": 2}):
            self.agrees(book, request, prices)

    def test_twelve_names_with_one_of_each_thirteen_left_out(self):
        words = ["0" * 5 + "0", "0" * 5 + "1", "0012", "0013", "01", "02", "030", "031", "1", "20", "21", "30", "31"]
        names = [*TWELVE, "mb"]
        book = deep_book(words, names)
        prices = {name: 2 for name in names}
        for call in BOTH:
            caught(self, TooLarge, call, book, {}, prices)
            caught(self, TooLarge, call, book, {"z": 1}, prices)
            caught(self, TooLarge, call, book, {"z": 3, "y": 2}, {**prices, "zz": 1})
        for left_out in names:
            rest = {name: price for name, price in prices.items() if name != left_out}
            self.assertEqual(len(options(book, {}, rest)), len(by_words.option_nodes(book, {})))
            self.assertEqual(cheapest(book, {}, rest), (0, {}))
            self.assertEqual(cheapest(book, {}, {**rest, "zz": 5, "abc": 6}), (0, {}))
            self.assertEqual(cheapest(book, {left_out: 6}, prices)[0], 0)
            self.assertEqual(len(options(book, {left_out: 1}, prices)), len(by_words.option_nodes(book, {left_out: 1})))
            caught(self, TooLarge, cheapest, book, {"z": 6}, prices)

    def test_many_firm_names(self):
        book = full_book(4, 6)
        names = list(book.words())
        short = Codebook(4, 6, {name: word for name, word in book.words().items() if name != names[77]})
        self.assertEqual(cheapest(short, {"z": 6}, {names[3]: 4}), (0, {"z": book.codeword(names[77])}))
        prices = {name: 5 for name in names[:4]}
        self.assertEqual(cheapest(Codebook(4, 6, {name: book.codeword(name) for name in names[:20]}), {"z": 1}, prices),
                         (0, {"z": "1"}))

    def test_no_plan(self):
        book = example()
        for request in ({"d": 1, "e": 1}, {"d": 1, "e": 2, "f": 2}, {name: 3 for name in "defghi"}):
            self.assertIs(cheapest(book, request, {"a": 1, "b": 1, "c": 1}), None)
        self.assertIs(cheapest(book, {"d": 1}, {}), None)
        self.assertIs(cheapest(Codebook(2, 1, {}, ("0", "1")), {"a": 1}, {"a": 1}), None)
        self.assertIs(cheapest(Codebook(2, 6, {}, ("0", "1")), {"a": 6}, {}), None)

    def test_requests_of_all_kinds(self):
        book = example()
        prices = {"a": 1, "b": 1, "c": 3}
        self.assertEqual(cheapest(book, {}, prices), (0, {}))
        self.assertEqual(cheapest(book, {}, {}), (0, {}))
        self.assertEqual(cheapest(book, {"c": 1}, {}), (0, {"c": "1"}))
        self.assertEqual(cheapest(book, {"a": 1}, {"b": 2, "c": 1}), (1, {"a": "1", "c": "000"}))
        self.assertEqual(cheapest(book, {"a": 1}, {"b": 1, "c": 2}), (1, {"a": "0", "b": "101"}))
        self.assertEqual(cheapest(book, {"a": 3, "b": 2, "c": 1}, prices), (0, {"a": "110", "b": "10", "c": "0"}))
        self.assertEqual(cheapest(book, {"x": 2, "y": 3}, {}), (0, {"x": "11", "y": "001"}))

    def test_further_prices_have_no_effect(self):
        book = example()
        wanted = cheapest(book, {"d": 1, "c": 3}, {"a": 1, "b": 1})
        self.assertEqual(cheapest(book, {"d": 1, "c": 3}, {"a": 1, "b": 1, "c": 1, "d": 1, "zz": 1}), wanted)
        many = {letter * 3: 1 for letter in "abcdefghijklmnopqrstuvwxyz"}
        self.assertEqual(cheapest(book, {"d": 1, "c": 3}, {"a": 1, "b": 1, **many}), wanted)
        self.assertEqual(options(book, {"c": 3}, {"a": 1, "b": 1, **many}), options(book, {"c": 3}, {"b": 1, "a": 1}))

    def test_lowest_and_highest_price(self):
        book = Codebook(2, 3, {"a": "000", "b": "100"})
        self.assertEqual(cheapest(book, {"z": 1}, {"a": 999, "b": 998})[0], 998)
        self.assertEqual(cheapest(book, {"z": 1}, {"a": 1, "b": 2}), (1, {"a": "101", "z": "0"}))

    def test_plan_is_a_plan_with_its_price(self):
        draw = Random(5)
        for _ in range(40):
            book = drawn.book(draw, 4, 6, 16)
            prices = drawn.prices(draw, book)
            request = drawn.request(draw, book, 4)
            found = cheapest(book, request, prices)
            self.assertEqual(found is None, by_words.no_plan_level(book, request, prices) is not None)
            if found is not None:
                price, plan = found
                self.assertIs(is_plan(book, request, prices, plan), True)
                self.assertEqual(plan_price(book, request, prices, plan), price)
                recoded = [name for name in plan if name not in request]
                self.assertEqual(make_plan(book, request, prices, recoded), plan)

    def test_new_results_and_untouched_arguments(self):
        book = example()
        fresh(self, options, book, {"d": 1}, {"c": 3, "a": 1})
        price, plan = fresh(self, cheapest, book, {"d": 1}, {"c": 3, "b": 1, "a": 1})
        plan.clear()
        self.assertEqual(cheapest(book, {"d": 1}, {"c": 3, "b": 1, "a": 1})[1], {"a": "101", "b": "110", "d": "0"})
        self.assertEqual(price, 2)

    def test_order_of_keys_does_not_matter(self):
        words = {"a": "000", "b": "010", "c": "100", "d": "110"}
        prices = {"d": 2, "a": 1, "c": 3, "b": 2}
        request = {"z": 1, "d": 3}
        wanted = cheapest(Codebook(2, 3, words), request, prices)
        table = options(Codebook(2, 3, words), request, prices)
        self.assertEqual(wanted[0], 3)
        for order in permutations("abcd"):
            book = Codebook(2, 3, {name: words[name] for name in order})
            mixed = {name: prices[name] for name in order[::-1]}
            found = cheapest(book, {"d": 3, "z": 1}, mixed)
            self.assertEqual(str(found), str(wanted))
            self.assertEqual(options(book, {"d": 3, "z": 1}, mixed), table)

    def test_by_name(self):
        named = {"prices": {"a": 1, "b": 1, "c": 3}, "request": {"d": 1}, "book": example()}
        self.assertEqual(cheapest(**named)[0], 2)
        self.assertEqual(len(options(**named)), 9)


class WrongInputTest(unittest.TestCase):
    def test_wrong_requests(self):
        for depth in (1, 3, 6):
            for request in wrong_requests(depth):
                for call in BOTH:
                    caught(self, InvalidRequest, call, Codebook(2, depth, {"a": "0"}), request, {})

    def test_wrong_prices(self):
        for prices in WRONG_PRICES:
            for call in BOTH:
                caught(self, InvalidPrices, call, example(), {"d": 3}, prices)
                caught(self, InvalidPrices, call, Codebook(2, 1, {}), {}, prices)

    def test_every_price(self):
        for price in range(-3, 1003):
            if 1 <= price <= 999:
                self.assertEqual(cheapest(example(), {}, {"a": price}), (0, {}))
            else:
                for call in BOTH:
                    caught(self, InvalidPrices, call, example(), {}, {"a": price})
                    caught(self, InvalidPrices, call, example(), {}, {"zz": price})

    def test_order_of_errors(self):
        book = full_book(2, 4)
        many = {name: 1 for name in book.words()}
        for call in BOTH:
            for request, prices in product(
                (None, {"d": 5}, {"d": True}, {"D": 1}, [], {1: 1}), (None, {"a": 0}, {"A": 1}, [], many),
            ):
                caught(self, InvalidRequest, call, book, request, prices)
            for prices in (None, {**many, "a": 0}, {**many, "A": 1}, {**many, "a": True}, [many]):
                caught(self, InvalidPrices, call, book, {"z": 1}, prices)
            caught(self, TooLarge, call, book, {"z": 1}, many)
            caught(self, TooLarge, call, book, {}, many)

    def test_how_many_names_are_priced(self):
        book = full_book(2, 4)
        names = list(book.words())
        for count in range(17):
            prices = {name: 3 for name in names[:count]}
            for asked in range(3):
                request = {name: 4 for name in names[:asked]}
                for call in BOTH:
                    if count - min(asked, count) > 12:
                        caught(self, TooLarge, call, book, request, prices)
                    else:
                        self.assertIsNot(call(book, request, prices), None)


if __name__ == "__main__":
    unittest.main()
