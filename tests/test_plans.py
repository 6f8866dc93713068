"""Prices and plans: [2], [6], [8], [9], [11] (first item), [23], [24]."""

import unittest
from itertools import permutations, product

from keptcode.codebooks import Codebook
from keptcode.errors import InvalidPlan, InvalidPrices, InvalidRequest, NoRoom
from keptcode.plans import apply_plan, is_plan, make_plan, plan_price
from tests import by_words
from tests.things import (
    EMPTY_THINGS, ODD_THINGS, WRONG_KEYS, WRONG_NAMES, WRONG_PRICES, caught, fresh, full_book, wrong_requests,
)

SHAPES = list(product(range(2, 5), range(1, 7)))
TAKERS = (plan_price, apply_plan)


def example():
    return Codebook(2, 3, {"a": "000", "b": "010", "c": "100"})


def tables_over(names, nodes, most):
    """All dicts from at most so many names to nodes."""
    return [
        dict(zip(chosen, words)) for chosen in by_words.subsets(names) if len(chosen) <= most
        for words in product(nodes, repeat=len(chosen))
    ]


class ExampleTest(unittest.TestCase):
    def test_price_and_result(self):
        book = example()
        plan = {"d": "1", "c": "001"}
        self.assertIs(is_plan(book, {"d": 1}, {"c": 3}, plan), True)
        self.assertEqual(plan_price(book, {"d": 1}, {"c": 3}, plan), 3)
        found = apply_plan(book, {"d": 1}, {"c": 3}, plan)
        self.assertEqual(str(found.words()), "{'a': '000', 'b': '010', 'c': '001', 'd': '1'}")

    def test_make(self):
        found = make_plan(example(), {"d": 1}, {"a": 1, "b": 1, "c": 3}, ["b", "a"])
        self.assertEqual(str(found), "{'a': '101', 'b': '110', 'd': '0'}")


class PlanTest(unittest.TestCase):
    def judged(self, book, request, prices, words):
        wanted = by_words.is_plan(book, request, prices, words)
        self.assertIs(is_plan(book, request, prices, words), wanted, (book.words(), request, prices, words))
        if wanted:
            recoded = [name for name in words if name not in request]
            self.assertEqual(plan_price(book, request, prices, words), sum(prices[name] for name in recoded))
            merged = {**by_words.others(book, request), **words}
            self.assertEqual(apply_plan(book, request, prices, words),
                             Codebook(book.radix, book.depth, merged, book.reserved()))
        else:
            for call in TAKERS:
                caught(self, InvalidPlan, call, book, request, prices, words)

    def test_every_table_of_small_codebooks(self):
        for radix, depth, most, names in ((2, 1, 2, "acdz"), (2, 2, 2, "acz"), (3, 1, 3, "acz")):
            tables = tables_over(names, by_words.all_nodes(radix, depth), 2)
            for book in by_words.books(radix, depth, most):
                for request in by_words.requests_over("cz", depth, 2):
                    for prices in ({}, {"a": 5, "c": 7, "z": 9}):
                        for words in tables:
                            self.judged(book, request, prices, words)

    def test_every_table_of_three_names(self):
        tables = tables_over("abd", by_words.all_nodes(2, 3), 3)
        for reserved in ((), ("111",)):
            book = Codebook(2, 3, {"a": "00", "b": "010", "c": "10"}, reserved)
            for request in ({}, {"d": 3}, {"b": 3, "d": 2}):
                for words in tables:
                    self.judged(book, request, {"a": 2, "b": 30}, words)

    def test_plans_of_the_full_depth(self):
        book = Codebook(4, 6, {"a": "333333", "b": "0", "c": "123012"}, ("2", "333330"))
        request = {"a": 6, "d": 1}
        prices = {"a": 50, "b": 999, "c": 1}
        plan = {"a": "100000", "d": "0", "c": "100001"}
        caught(self, InvalidPlan, apply_plan, book, request, prices, plan)
        plan["b"] = "3"
        caught(self, InvalidPlan, apply_plan, book, request, prices, plan)
        book = Codebook(4, 6, {"a": "333333", "b": "0", "c": "123012"}, ("2", "100002"))
        self.assertEqual(plan_price(book, request, prices, plan), 1000)
        self.assertEqual(apply_plan(book, request, prices, plan), Codebook(4, 6, plan, ("100002", "2")))


class PlanEdgeTest(unittest.TestCase):
    def accepted(self, book, request, prices, plan, price, words):
        self.assertIs(fresh(self, is_plan, book, request, prices, plan), True)
        self.assertEqual(fresh(self, plan_price, book, request, prices, plan), price)
        found = fresh(self, apply_plan, book, request, prices, plan)
        self.assertEqual(found.words(), words)
        self.assertEqual((found.radix, found.depth, found.reserved()), (book.radix, book.depth, book.reserved()))
        self.assertIsNot(found, book)

    def refused(self, book, request, prices, plan):
        self.assertIs(fresh(self, is_plan, book, request, prices, plan), False)
        for call in TAKERS:
            caught(self, InvalidPlan, call, book, request, prices, plan)

    def test_nothing_requested_and_nothing_recoded(self):
        for book in (Codebook(2, 3, {}), Codebook(2, 3, {}, ("1",)), example(), full_book(4, 6)):
            self.accepted(book, {}, {}, {}, 0, book.words())
            self.accepted(book, {}, {"a": 1, "zz": 999}, {}, 0, book.words())

    def test_nothing_recoded(self):
        book = example()
        self.accepted(book, {"d": 2}, {}, {"d": "11"}, 0, {**book.words(), "d": "11"})
        self.accepted(book, {"d": 2}, {"a": 4, "b": 5}, {"d": "11"}, 0, {**book.words(), "d": "11"})

    def test_requested_names_may_keep_their_codewords(self):
        book = example()
        self.accepted(book, {"a": 3}, {}, {"a": "000"}, 0, book.words())
        self.accepted(book, {"a": 3}, {"a": 9}, {"a": "111"}, 0, {**book.words(), "a": "111"})
        self.accepted(book, {"a": 2}, {"a": 9}, {"a": "00"}, 0, {**book.words(), "a": "00"})

    def test_recoded_names_may_keep_their_codewords_and_cost_their_price(self):
        book = example()
        self.accepted(book, {}, {"a": 7}, {"a": "000"}, 7, book.words())
        self.accepted(book, {"d": 2}, {"a": 7, "b": 8}, {"d": "11", "b": "010", "a": "001"}, 15,
                      {**book.words(), "a": "001", "d": "11"})

    def test_names_may_swap(self):
        book = Codebook(2, 2, {"a": "0", "b": "10", "c": "11"})
        self.accepted(book, {"a": 2, "b": 1}, {}, {"a": "10", "b": "0"}, 0, {"a": "10", "b": "0", "c": "11"})
        self.accepted(book, {}, {"b": 1, "c": 999}, {"b": "11", "c": "10"}, 1000, {"a": "0", "b": "11", "c": "10"})

    def test_order_of_the_names_does_not_matter(self):
        plan = {"d": "1", "c": "001"}
        for names in permutations(plan):
            found = apply_plan(example(), {"d": 1}, {"c": 3}, {name: plan[name] for name in names})
            self.assertEqual(list(found.words()), ["a", "b", "c", "d"])

    def test_a_requested_name_is_left_out(self):
        book = example()
        self.refused(book, {"d": 2}, {}, {})
        self.refused(book, {"d": 2, "e": 3}, {}, {"d": "11"})
        self.refused(book, {"d": 2, "a": 3}, {"a": 1}, {"d": "11"})
        self.refused(book, {"d": 2}, {"a": 1}, {"a": "000"})

    def test_other_names(self):
        book = example()
        # These are firm, of neither the codebook nor the request, or priced but not of the codebook.
        self.refused(book, {"d": 2}, {}, {"d": "11", "a": "000"})
        self.refused(book, {"d": 2}, {"b": 1}, {"d": "11", "b": "010", "a": "001"})
        self.refused(book, {"d": 2}, {"b": 1}, {"d": "11", "e": "001"})
        self.refused(book, {"d": 2}, {"e": 1}, {"d": "11", "e": "001"})
        self.refused(book, {}, {"e": 1}, {"e": "001"})

    def test_wrong_lengths(self):
        book = example()
        for word in ("1", "110", "111"):
            self.refused(book, {"d": 2}, {}, {"d": word})
        for word in ("00", "0"):
            self.refused(book, {}, {"a": 1}, {"a": word})
        # The old length of a requested name no longer counts.
        self.refused(book, {"a": 2}, {"a": 1}, {"a": "000"})
        self.refused(book, {"a": 2}, {"a": 1}, {"a": "111"})

    def test_clashes(self):
        book = Codebook(2, 3, {"a": "000", "b": "010", "c": "100"}, ("111",))
        self.refused(book, {"d": 1}, {"c": 1}, {"d": "1", "c": "001"})
        self.refused(book, {"d": 3}, {}, {"d": "000"})
        self.refused(book, {"d": 3}, {}, {"d": "111"})
        self.refused(book, {"d": 2}, {"a": 1}, {"d": "01", "a": "001"})
        self.refused(book, {"d": 3, "e": 3}, {}, {"d": "110", "e": "110"})
        self.refused(book, {"d": 2, "e": 3}, {}, {"d": "11", "e": "110"})
        self.refused(book, {"d": 3, "e": 2}, {"c": 1}, {"d": "110", "e": "10"})
        self.refused(book, {"d": 3}, {"a": 1}, {"d": "001", "a": "001"})
        self.accepted(book, {"d": 2}, {"c": 1}, {"d": "10", "c": "110"}, 1,
                      {"a": "000", "b": "010", "c": "110", "d": "10"})

    def test_further_prices_have_no_effect(self):
        book = example()
        plan = {"d": "1", "c": "001"}
        prices = {"zz": 1, "d": 500, "c": 3, "abcdefgh": 999}
        self.accepted(book, {"d": 1}, prices, plan, 3, {**book.words(), **plan})

    def test_later_changes_of_arguments(self):
        book, request, prices, plan = example(), {"d": 1}, {"c": 3}, {"d": "1", "c": "001"}
        found = apply_plan(book, request, prices, plan)
        made = make_plan(book, request, prices, ["c"])
        request.clear()
        prices.clear()
        plan.clear()
        made["a"] = "111"
        self.assertEqual(found.words(), {"a": "000", "b": "010", "c": "001", "d": "1"})
        self.assertEqual(book, example())

    def test_lowest_and_highest_price(self):
        for price in (1, 2, 998, 999):
            self.assertEqual(plan_price(example(), {}, {"a": price}, {"a": "001"}), price)

    def test_by_name(self):
        named = {"plan": {"d": "1", "c": "001"}, "prices": {"c": 3}, "request": {"d": 1}, "book": example()}
        self.assertEqual(plan_price(**named), 3)
        self.assertEqual(len(apply_plan(**named)), 4)
        self.assertIs(is_plan(thing={"d": "11"}, prices={}, request={"d": 2}, book=example()), True)


class MakePlanTest(unittest.TestCase):
    def agrees(self, book, request, prices, recoded):
        words = by_words.others(book, request)
        kept = [name for name in words if name not in recoded]
        fixed = [words[name] for name in kept] + list(book.reserved())
        failing = by_words.failing_levels(book, request, kept)
        wanted = by_words.first_places(book.radix, fixed, by_words.wanted_lengths(book, request, recoded))
        if failing:
            self.assertEqual(caught(self, NoRoom, make_plan, book, request, prices, recoded).level, failing[0])
            self.assertIs(wanted, None)
            return
        found = fresh(self, make_plan, book, request, prices, recoded)
        self.assertEqual(list(found.items()), list(wanted.items()))
        self.assertTrue(by_words.is_plan(book, request, prices, found))
        self.assertEqual(plan_price(book, request, prices, found), sum(prices[name] for name in recoded))

    def agrees_for_all(self, book, request):
        prices = {name: at + 1 for at, name in enumerate(by_words.NAMES)}
        for recoded in by_words.subsets(list(by_words.others(book, request))):
            self.agrees(book, request, prices, recoded[::-1])
            self.agrees(book, request, {name: 999 for name in recoded}, list(recoded))

    def test_every_small_codebook(self):
        for radix, depth, most in ((2, 1, 2), (2, 2, 4), (3, 1, 3), (4, 1, 4)):
            for book in by_words.books(radix, depth, most):
                for request in by_words.requests_over("acz", depth, 3):
                    self.agrees_for_all(book, request)

    def test_larger_codebooks(self):
        for radix, depth, most in ((2, 3, 2), (3, 2, 2)):
            for book in by_words.books(radix, depth, most):
                for request in by_words.requests_over("az", depth, 2):
                    self.agrees_for_all(book, request)

    def test_deep_codebook(self):
        book = Codebook(2, 6, {"a": "000000", "b": "000001", "c": "01", "d": "1101"}, ("11110", "10"))
        for request in by_words.requests_over("ay", 6, 2):
            self.agrees_for_all(book, request)

    def test_nothing_to_do(self):
        for book in (Codebook(2, 3, {}), Codebook(2, 3, {}, ("1",)), example(), full_book(4, 6)):
            self.assertEqual(make_plan(book, {}, {}, []), {})
            self.assertEqual(make_plan(book, {}, {"a": 1}, ()), {})

    def test_nothing_recoded(self):
        self.assertEqual(make_plan(example(), {"e": 3, "d": 3, "b": 2}, {"a": 1}, ()),
                         {"b": "01", "d": "001", "e": "101"})

    def test_full_codebook(self):
        for radix, depth in SHAPES:
            book = full_book(radix, depth)
            names = list(book.words())
            prices = {name: 999 for name in names}
            self.assertEqual(make_plan(book, {}, prices, names[::-1]), book.words())
            self.assertEqual(make_plan(book, {names[0]: depth}, prices, names[:0:-1]), book.words())
            for level in range(1, depth + 1):
                self.assertEqual(caught(self, NoRoom, make_plan, book, {"z": level}, prices, names).level, depth)
                self.assertEqual(caught(self, NoRoom, make_plan, book, {"z": level}, prices, []).level, level)

    def test_recoded_names_in_any_order(self):
        book = Codebook(2, 4, {"a": "1001", "b": "011", "c": "0101", "d": "11"})
        prices = {"a": 1, "b": 2, "c": 3, "d": 4}
        wanted = {"a": "0110", "b": "010", "c": "0111", "z": "00"}
        for names in permutations(["a", "b", "c"]):
            self.assertEqual(fresh(self, make_plan, book, {"z": 2}, prices, names), wanted)
            self.assertEqual(fresh(self, make_plan, book, {"z": 2}, prices, list(names)), wanted)

    def test_by_name(self):
        found = make_plan(recoded=["c"], prices={"c": 3}, request={"d": 1}, book=example())
        self.assertEqual(found, {"c": "001", "d": "1"})


class WrongInputTest(unittest.TestCase):
    def every(self, error, book, request, prices, last):
        for call in (is_plan, plan_price, apply_plan, make_plan):
            caught(self, error, call, book, request, prices, last)

    def test_wrong_requests(self):
        for depth in (1, 3, 6):
            for request in wrong_requests(depth):
                self.every(InvalidRequest, Codebook(2, depth, {"a": "0"}), request, {}, {})

    def test_wrong_prices(self):
        for prices in WRONG_PRICES:
            self.every(InvalidPrices, example(), {"d": 3}, prices, {"d": "111"})
            self.every(InvalidPrices, Codebook(2, 1, {}), {}, prices, [])

    def test_every_price(self):
        for price in range(-3, 1003):
            if 1 <= price <= 999:
                self.assertEqual(plan_price(example(), {}, {"a": price}, {"a": "001"}), price)
            else:
                self.every(InvalidPrices, example(), {}, {"a": price}, {})
                self.every(InvalidPrices, example(), {}, {"zz": price}, {})

    def test_things_that_are_no_plans(self):
        tables = [{name: "111"} for name in WRONG_KEYS] + [{"d": "111", name: "001"} for name in WRONG_KEYS]
        words = [{"d": word} for word in ODD_THINGS + EMPTY_THINGS]
        pairs = [["d"], ("d",), "d", [("d", "111")], (("d", "111"),), {"d": ["111"]}, {"d": ("111",)}, {"d": 111}]
        more = [{"a": "001", "d": word} for word in ("1110", "112", "11a", "11 ", "11\n", 111, None, True, [], {})]
        for thing in [*ODD_THINGS, *EMPTY_THINGS, *tables, *words, *pairs, *more]:
            self.assertIs(is_plan(example(), {"d": 3}, {"a": 1}, thing), False, thing)
            for call in TAKERS:
                caught(self, InvalidPlan, call, example(), {"d": 3}, {"a": 1}, thing)

    def test_things_that_cannot_be_recoded(self):
        book = example()
        prices = {"a": 1, "b": 2, "d": 3, "e": 4}
        for thing in ODD_THINGS + ("", {}, "a", "ab", {"a": 1}, {"a": "000"}, ("a", ["b"]), [["a", "b"]]):
            caught(self, InvalidPlan, make_plan, book, {"d": 3}, prices, thing)
        # "c" is firm, "d" is requested, "e" is not of the codebook.
        for name in WRONG_NAMES + ("c", "d", "e", "f"):
            for recoded in ([name], (name,), ["a", name], ("a", name), [name, "b"], ["a", name, "b"]):
                caught(self, InvalidPlan, make_plan, book, {"d": 3}, prices, recoded)
        for recoded in (["a", "a"], ("a", "a"), ["a", "b", "a"], ["b", "b", "a"]):
            caught(self, InvalidPlan, make_plan, book, {"d": 3}, prices, recoded)
        caught(self, InvalidPlan, make_plan, book, {"a": 3}, prices, ["a"])
        caught(self, InvalidPlan, make_plan, book, {}, {}, ["a"])

    def test_order_of_errors(self):
        full = full_book(2, 1)
        bad_requests = (None, {"d": 2}, {"d": True}, {"D": 1}, [], {1: 1})
        bad_prices = (None, {"a": 0}, {"a": 1000}, {"a": True}, {"A": 1}, [], {1: 1})
        bad_lasts = (None, ["c"], {"c": "0"}, [[]], "a", {1: 1})
        for request, prices, last in product(bad_requests, bad_prices, bad_lasts):
            self.every(InvalidRequest, full, request, prices, last)
            self.every(InvalidRequest, full, request, {}, last)
            self.every(InvalidPrices, full, {"d": 1}, prices, last)
            for call in (plan_price, apply_plan, make_plan):
                caught(self, InvalidPlan, call, full, {"d": 1}, {}, last)
        self.assertEqual(caught(self, NoRoom, make_plan, full, {"d": 1}, {}, []).level, 1)

    def test_smallest_failing_level(self):
        book = Codebook(2, 3, {"a": "00", "b": "010"})
        prices = {"a": 1, "b": 1}
        for request, recoded, level in (
            ({"x": 1, "y": 1}, [], 1), ({"x": 1, "y": 1}, ["a"], 1), ({"x": 1, "y": 1}, ["a", "b"], 2),
            ({"x": 2, "y": 2, "z": 2}, ["a"], 2), ({"x": 2, "y": 2, "z": 2}, ["b", "a"], 3),
        ):
            kept = [name for name in "ab" if name not in recoded]
            self.assertEqual(by_words.failing_levels(book, request, kept)[0], level)
            self.assertEqual(caught(self, NoRoom, make_plan, book, request, prices, recoded).level, level)

    def test_nothing_has_changed(self):
        book = example()
        caught(self, InvalidPlan, apply_plan, book, {"d": 1}, {"c": 3}, {"d": "1"})
        caught(self, NoRoom, make_plan, book, {"d": 1}, {}, [])
        self.assertEqual(book, example())
        self.assertEqual(make_plan(book, {"d": 1}, {"c": 3}, ["c"]), {"c": "001", "d": "1"})


if __name__ == "__main__":
    unittest.main()
