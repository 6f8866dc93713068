"""Certificates: [2], [11] (second item), [27], [28]."""

import unittest
from itertools import product
from random import Random

from keptcode.certificates import check_certificate
from keptcode.cheapest import cheapest, options
from keptcode.codebooks import Codebook
from keptcode.errors import InvalidPrices, InvalidRequest, TooLarge
from tests import by_rules, by_words, drawn
from tests.things import EMPTY_THINGS, ODD_THINGS, WRONG_PRICES, caught, fresh, full_book, snapshot, wrong_requests

SHAPES = list(product(range(2, 5), range(1, 7)))
BARS = (None, -5, 0, 1, 2, 3, 4, 5, 6, 7, 1000, 10 ** 39)


def example():
    return Codebook(2, 3, {"a": "000", "b": "010", "c": "100"}), {"d": 1}, {"a": 1, "b": 1, "c": 3}


def copied(table):
    return {node: list(found) for node, found in table.items()}


class ExampleTest(unittest.TestCase):
    def test_example(self):
        task = example()
        table = options(*task)
        self.assertIs(check_certificate(*task, table, 2), True)
        self.assertIs(check_certificate(*task, table, 3), False)
        self.assertIs(check_certificate(*task, table, None), False)


class OptionsTest(unittest.TestCase):
    def established(self, book, request, prices):
        table = options(book, request, prices)
        found = cheapest(book, request, prices)
        before = snapshot(table)
        if found is None:
            for bar in BARS:
                self.assertIs(check_certificate(book, request, prices, table, bar), True)
        else:
            price = found[0]
            for bar in (None, price - 1, price, price + 1, 0, -1, 10 ** 39):
                wanted = bar is not None and bar <= price
                self.assertIs(check_certificate(book, request, prices, table, bar), wanted, (bar, price))
        self.assertEqual(snapshot(table), before)
        return found is not None

    def test_every_small_codebook(self):
        table = {name: at + 1 for at, name in enumerate(by_words.NAMES)}
        for radix, depth, most in ((2, 1, 2), (2, 2, 4), (3, 1, 3), (4, 1, 4)):
            for book in by_words.books(radix, depth, most):
                for request in by_words.requests_over("cz", depth, 2):
                    for prices in ({}, table, {"c": 1}):
                        self.established(book, request, prices)

    def test_drawn_codebooks(self):
        draw = Random(3)
        outcomes = []
        for radix, depth in ((2, 3), (2, 4), (2, 6), (3, 3), (3, 4), (4, 2), (4, 3)):
            for _ in range(12):
                book = drawn.book(draw, radix, depth, 12)
                request = drawn.request(draw, book, 3)
                outcomes.append(self.established(book, request, drawn.prices(draw, book, draw.choice((2, 999)))))
        self.assertTrue(10 < sum(outcomes) < len(outcomes) - 10)

    def test_edges(self):
        for radix, depth in SHAPES:
            for book in (Codebook(radix, depth, {}), Codebook(radix, depth, {}, ["1" * depth, "0"]),
                         full_book(radix, depth)):
                first = list(book.words())[:12]
                for request in ({}, {"z": 1}, {"z": depth}, {name: depth for name in book.words()}):
                    self.established(book, request, {})
                    self.established(book, request, {name: 2 for name in first})

    def test_twelve_names(self):
        draw = Random(12)
        names = ["ab", "bb", "cb", "db", "eb", "fb", "gb", "hb", "ib", "jb", "kb", "lb"]
        for levels in ([6], [4, 5, 6], [2, 3, 4, 5, 6]):
            words = drawn.nodes(draw, 4, 6, 60, levels)[:12]
            prices = {name: draw.randint(1, 999) for name in names}
            book = Codebook(4, 6, dict(zip(names, words)))
            for request in ({}, {"z": 1}, {"y": 1, "z": 1}, {"x": 1, "y": 1, "z": 1}, {"x": 1, "y": 1, "ab": 1, "z": 1}):
                self.established(book, request, prices)
        crowd = Codebook(4, 6, dict(zip(names, ["3211" + first + second for first in "012" for second in "0123"])))
        self.established(crowd, {"y": 1, "z": 2}, {name: 2 ** min(at, 9) for at, name in enumerate(names)})


class RulesTest(unittest.TestCase):
    def judged(self, task, table, bars):
        for bar in bars:
            wanted = by_rules.establishes(*task, table, bar)
            self.assertIs(check_certificate(*task, table, bar), wanted, (task, table, bar))
        return wanted

    def tasks(self, seed, count):
        draw = Random(seed)
        found = []
        while len(found) < count:
            radix, depth = draw.choice(((2, 1), (2, 2), (2, 3), (3, 2), (2, 4), (4, 2)))
            book = drawn.book(draw, radix, depth, 5)
            prices = {name: draw.randint(1, 4) for name in book.words() if draw.randrange(4)}
            found.append((book, drawn.request(draw, book, 2), prices))
        return draw, found

    def bars(self, table):
        prices = sorted({price for _, _, price in table[""]})
        return [None, -1, *prices, *(price + 1 for price in prices)]

    def change(self, draw, book, table):
        """A table that is changed at one place."""
        changed = copied(table)
        node = draw.choice(list(changed))
        found = changed[node]
        if not found or draw.randrange(6) == 0:
            counts = tuple(draw.randint(0, 2) for _ in range(book.depth - len(node)))
            found.insert(draw.randint(0, len(found)), (draw.random() < 0.5, counts, draw.randint(0, 5)))
            return changed
        at = draw.randrange(len(found))
        present, counts, price = found[at]
        kind = draw.randrange(4)
        if kind == 0:
            del found[at]
        elif kind == 1:
            found[at] = (not present, counts, price)
        elif kind == 2:
            found[at] = (present, counts, max(0, price + draw.choice((-2, -1, 1, 2))))
        elif counts:
            place = draw.randrange(len(counts))
            changed_count = max(0, counts[place] + draw.choice((-1, 1)))
            found[at] = (present, (*counts[:place], changed_count, *counts[place + 1:]), price)
        return changed

    def test_changed_tables(self):
        draw, tasks = self.tasks(8, 150)
        outcomes = []
        for task in tasks:
            table = options(*task)
            self.judged(task, table, self.bars(table))
            for _ in range(12):
                changed = self.change(draw, task[0], table)
                outcomes.append(self.judged(task, changed, [*self.bars(table), -1]))
                if draw.randrange(3) == 0:
                    outcomes.append(self.judged(task, self.change(draw, task[0], changed), [*self.bars(table), -1]))
        self.assertTrue(200 < sum(outcomes) < len(outcomes) - 200)

    def test_every_element_is_needed(self):
        for task in self.tasks(9, 40)[1]:
            table = options(*task)
            for node, found in table.items():
                for at, (present, counts, price) in enumerate(found):
                    for replaced in ([], [(present, counts, price + 1)]):
                        less = copied(table)
                        less[node][at:at + 1] = replaced
                        self.assertIs(check_certificate(*task, less, -1), False)
                        self.assertIs(check_certificate(*task, less, None), False)
                    for place, count in enumerate(counts):
                        more = copied(table)
                        more[node][at] = (present, (*counts[:place], count + 1, *counts[place + 1:]), price)
                        self.assertIs(check_certificate(*task, more, -1), False)
                    if not present:
                        other = copied(table)
                        other[node][at] = (True, counts, price)
                        self.assertIs(check_certificate(*task, other, -1), by_rules.establishes(*task, other, -1))

    def test_additional_elements_in_any_order(self):
        draw, tasks = self.tasks(10, 60)
        for task in tasks:
            table = options(*task)
            more = {}
            for node in draw.sample(list(table), len(table)):
                longer = [(True, tuple(count + 1 for count in counts), price + 1) for _, counts, price in table[node]]
                more[node] = table[node] + longer + table[node][:1]
                draw.shuffle(more[node])
            self.judged(task, more, self.bars(table))
            self.judged(task, {node: table[node][::-1] for node in sorted(table, reverse=True)}, self.bars(table))

    def test_all_options_instead_of_the_uncovered_ones(self):
        for task in self.tasks(11, 30)[1]:
            table = options(*task)
            full = {node: by_words.all_options(*task, node) for node in table}
            self.judged(task, full, self.bars(table))
            found = cheapest(*task)
            self.assertIs(check_certificate(*task, full, found and found[0]), True)

    def test_a_table_that_covers_everything(self):
        task = example()
        nodes = by_words.option_nodes(task[0], task[1])
        table = {node: [(False, (0,) * (3 - len(node)), 0)] for node in nodes}
        self.judged(task, table, BARS)
        self.assertIs(check_certificate(*task, table, 0), True)
        self.assertIs(check_certificate(*task, table, 1), False)
        self.assertIs(check_certificate(*task, table, None), False)

    def test_cheaper_elements(self):
        task = example()
        table = options(*task)
        for node, found in table.items():
            for at, (present, counts, price) in enumerate(found):
                if price:
                    changed = copied(table)
                    changed[node][at] = (present, counts, price - 1)
                    self.judged(task, changed, BARS)

    def test_lists_without_elements(self):
        for task in self.tasks(13, 20)[1]:
            table = options(*task)
            for node in table:
                changed = copied(table)
                changed[node] = []
                self.judged(task, changed, [None, 0, 5])
                self.assertIs(check_certificate(*task, changed, 0), False)
            self.assertIs(check_certificate(*task, {node: [] for node in table}, None), False)

    def test_the_last_level_fails(self):
        # No element satisfies the condition for the depth, where the count is 0.
        book = Codebook(2, 1, {"a": "0", "b": "1"})
        table = options(book, {"z": 1}, {"a": 1, "b": 1})
        for bar in BARS:
            self.assertIs(check_certificate(book, {"z": 1}, {"a": 1, "b": 1}, table, bar), True)

    def test_level_zero_does_not_count(self):
        book = Codebook(2, 2, {"a": "00"})
        table = options(book, {}, {})
        table[""] = [(True, (1, 1), 0)]
        self.assertIs(check_certificate(book, {}, {}, table, 0), True)
        self.assertIs(check_certificate(book, {}, {}, table, 1), False)
        table[""] = [(True, (1, 1), 0), (True, (9, 0), 0)]
        self.assertIs(check_certificate(book, {}, {}, table, 0), True)
        self.assertIs(check_certificate(book, {}, {}, table, None), False)

    def test_long_lists(self):
        book = Codebook(2, 2, {"a": "0", "b": "1"})
        prices = {"a": 300, "b": 300}
        table = {
            "0": [(True, (at,), 300 - 3 * at) for at in range(100)] + [(False, (0,), 300), (True, (0,), 0)],
            "1": [(True, (at,), 200 - 2 * at) for at in range(98)] + [(False, (0,), 300), (True, (0,), 0)],
            "": [(False, (0, 0), 600), (True, (1, 0), 0)],
        }
        self.assertIs(check_certificate(book, {}, prices, table, 0), True)
        table[""] = [(False, (0, 0), 600), (True, (1, 0), 1)]
        self.assertIs(check_certificate(book, {}, prices, table, 0), False)
        table["1"] = [(True, (at,), 200 - 2 * at) for at in range(90)] + [(False, (0,), 300), (True, (0,), 0)]
        table[""] = [(False, (0, 0), 600)] + sorted({
            (True, (1, one + other), 300 - 3 * one + 200 - 2 * other) for one in range(100) for other in range(90)
        })[::9] + [(True, (1, 0), 0)]
        self.assertIs(check_certificate(book, {}, prices, table, 0), True)

    def test_four_children(self):
        book = Codebook(4, 1, {"a": "0", "b": "1", "c": "2", "d": "3"})
        prices = {"a": 1, "b": 2, "c": 3, "d": 4}
        for extra in ([], [(True, (), price) for price in range(1, 9)]):
            table = {node: found + extra if node else found for node, found in options(book, {}, prices).items()}
            self.judged((book, {}, prices), table, (0, 1, None))


class FormTest(unittest.TestCase):
    def refused(self, task, thing):
        for bar in (0, -7, None, 10 ** 39):
            self.assertIs(fresh(self, check_certificate, *task, thing, bar), False, thing)

    def test_other_things(self):
        for task in (example(), (Codebook(2, 1, {}), {}, {}), (full_book(2, 2), {"z": 1}, {})):
            for thing in [*ODD_THINGS, *EMPTY_THINGS, options(*task)[""], list(options(*task).items())]:
                self.refused(task, thing)

    def test_keys(self):
        task = example()
        table = options(*task)
        for node in table:
            less = copied(table)
            del less[node]
            self.refused(task, less)
            less[node + "x"] = table[node]
            self.refused(task, less)
        for key in ("11", "001", "0000", "1000", "a", "x", " ", 0, 1, -1, 10 ** 39, "d"):
            for found in ([], [(True, (), 0)], [(True, (0,), 0)], None, [(False, (0, 0, 0), 0)]):
                self.refused(task, {**copied(table), key: found})
                self.refused(task, {**{node: table[node] for node in table if node != "100"}, key: found})

    def test_keys_of_another_task(self):
        book, request, prices = example()
        table = options(book, request, prices)
        self.refused((book, {"d": 1, "c": 3}, prices), table)
        less = options(book, {"d": 1, "c": 3}, prices)
        self.refused((book, request, prices), less)

    def test_values(self):
        task = example()
        table = options(*task)
        for node, found in table.items():
            for value in [*ODD_THINGS, (), {}, "", tuple(found), {0: found[0]}, [list(found[0])], [found], found[0]]:
                if value != []:
                    self.refused(task, {**copied(table), node: value})

    def test_added_elements_of_other_forms(self):
        task = example()
        table = options(*task)
        for node, found in table.items():
            zeros = (0,) * (3 - len(node))
            wrong = [
                (0, zeros, 9), (1, zeros, 9), (None, zeros, 9), ("True", zeros, 9), ((), zeros, 9), ([], zeros, 9),
                (True, list(zeros), 9), (True, {}, 9), (True, None, 9), (True, "0" * len(zeros), 9), (True, 0, 9),
                (True, zeros + (0,), 9), (True, zeros, -1), (True, zeros, True), (True, zeros, False),
                (True, zeros, None), (True, zeros, "9"), (True, zeros, (9,)), (True, zeros, [9]), (True, zeros, {}),
                (True, zeros), (True, zeros, 9, 9), (True,), (), [True, zeros, 9], {True: zeros}, "abc", None, 0, True,
                (zeros, True, 9), (True, 9, zeros), ((True, zeros, 9),), [(True, zeros, 9)],
            ]
            if zeros:
                wrong += [(True, zeros[1:], 9), (True, (), 9)]
                wrong += [(True, (bad, *zeros[1:]), 9) for bad in (-1, True, False, None, "0", (), (0,), [], [0], {})]
                wrong += [(True, (*zeros[1:], bad), 9) for bad in (-1, True, False, None, "0", (), (0,), [], [0], {})]
            for one in wrong + list(ODD_THINGS):
                self.refused(task, {**copied(table), node: found + [one]})
                self.refused(task, {**copied(table), node: [one] + found})
            self.assertIs(check_certificate(*task, {**table, node: found + [(True, zeros, 9)]}, 0), True)

    def test_large_numbers(self):
        task = example()
        table = options(*task)
        table[""] = table[""] + [(True, (10 ** 39, 10 ** 40 - 1, 0), 10 ** 40 - 1)]
        self.assertIs(check_certificate(*task, table, 2), True)
        self.assertIs(check_certificate(*task, table, 3), False)

    def test_tables_of_a_codebook_without_nodes(self):
        for radix, depth in SHAPES:
            task = (Codebook(radix, depth, {}), {}, {})
            self.assertIs(check_certificate(*task, {"": [(False, (0,) * depth, 0)]}, 0), True)
            self.assertIs(check_certificate(*task, {"": [(False, (0,) * depth, 0)]}, 1), False)
            for thing in ({}, {"": []}, {"": [(True, (0,) * depth, 0)]}, {"": [(False, (0,) * depth, 1)]},
                          {"": [(False, (1,) + (0,) * (depth - 1), 0)]}, {"": [(False, (0,) * (depth + 1), 0)]}):
                self.refused(task, thing)

    def test_other_bars(self):
        task = example()
        table = options(*task)
        for bar in (True, False, "0", "", (), [], {}, (0,), [0]):
            self.assertIs(check_certificate(*task, table, bar), False)

    def test_by_name(self):
        book, request, prices = example()
        table = options(book, request, prices)
        self.assertIs(check_certificate(bar=2, thing=table, prices=prices, request=request, book=book), True)


class WrongInputTest(unittest.TestCase):
    def test_wrong_requests(self):
        for depth in (1, 3, 6):
            for request in wrong_requests(depth):
                caught(self, InvalidRequest, check_certificate, Codebook(2, depth, {"a": "0"}), request, {}, {}, 0)

    def test_wrong_prices(self):
        book, request, prices = example()
        table = options(book, request, prices)
        for wrong in WRONG_PRICES:
            caught(self, InvalidPrices, check_certificate, book, request, wrong, table, 2)

    def test_order_of_errors(self):
        book = full_book(2, 4)
        many = {name: 1 for name in book.words()}
        for thing, bar in product((None, {}, [], "a", {1: 1}), (None, 0, 5)):
            for prices in (None, {"a": 0}, many):
                caught(self, InvalidRequest, check_certificate, book, {"z": 5}, prices, thing, bar)
            caught(self, InvalidPrices, check_certificate, book, {"z": 1}, {**many, "a": 0}, thing, bar)
            caught(self, TooLarge, check_certificate, book, {"z": 1}, many, thing, bar)
            twelve = dict(list(many.items())[:12])
            self.assertIs(check_certificate(book, {"z": 1}, twelve, thing, bar), False)
            thirteen = dict(list(many.items())[:13])
            caught(self, TooLarge, check_certificate, book, {"z": 1}, thirteen, thing, bar)
            self.assertIs(check_certificate(book, {list(thirteen)[4]: 1}, thirteen, thing, bar), False)


if __name__ == "__main__":
    unittest.main()
