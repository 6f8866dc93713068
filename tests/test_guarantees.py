"""What the document promises over the whole program: [1], [2], [11]."""

import unittest
from itertools import product
from random import Random

from keptcode.capacity import failing_level
from keptcode.certificates import check_certificate
from keptcode.cheapest import cheapest, options
from keptcode.codebooks import Codebook
from keptcode.coding import Decoder, decode, encode
from keptcode.confusion import check_table, confusing, confusion_table
from keptcode.errors import CodeError, NoPlan, NoRoom
from keptcode.history import History
from keptcode.moves import move_cycle, move_order
from keptcode.packing import assign, canonical
from keptcode.plans import apply_plan, is_plan, make_plan, plan_price
from keptcode.registry import Registry
from keptcode.shell import Shell
from keptcode.symmetry import alike, relabel
from keptcode.text import format_codebook, parse_codebook
from keptcode.tree import free_nodes, gaps, room, touched
from tests import by_rules, by_words, drawn
from tests.things import are_prefix_free, fresh, snapshot, strings_of

SHAPES = ((2, 2), (2, 3), (2, 4), (2, 6), (3, 2), (3, 3), (3, 5), (4, 1), (4, 2), (4, 4))


def tasks(seed, count, most=3, highest=999):
    """Drawn codebooks with requests and prices."""
    draw = Random(seed)
    for radix, depth in SHAPES:
        for _ in range(count):
            book = drawn.book(draw, radix, depth, 14)
            yield draw, book, drawn.request(draw, book, most), drawn.prices(draw, book, highest)


def least(book, request, prices):
    """The least price, or more than any price if there is no plan."""
    found = cheapest(book, request, prices)
    return 10 ** 9 if found is None else found[0]


class OverviewTest(unittest.TestCase):
    def test_what_keptcode_decides(self):
        kinds = {"assigned": 0, "recoded": 0, "impossible": 0}
        for _, book, request, prices in tasks(90, 25, 4):
            words = by_words.others(book, request)
            found = cheapest(book, request, prices)
            try:
                assigned = assign(book, request)
            except NoRoom as error:
                self.assertEqual(error.level, failing_level(book, request, list(words)))
                if found is None:
                    kinds["impossible"] += 1
                    self.impossible(book, request, prices)
                else:
                    kinds["recoded"] += 1
                    self.assertGreater(found[0], 0)
                    self.recoded(book, request, prices, found)
            else:
                kinds["assigned"] += 1
                self.assertEqual(found, (0, {name: assigned.codeword(name) for name in sorted(request)}))
                self.assertEqual({name: assigned.codeword(name) for name in words}, words)
                self.assertIs(check_certificate(book, request, prices, options(book, request, prices), 0), True)
        self.assertTrue(min(kinds.values()) > 15, kinds)

    def recoded(self, book, request, prices, found):
        price, plan = found
        result = apply_plan(book, request, prices, plan)
        for name, word in by_words.others(book, request).items():
            self.assertEqual(len(result.codeword(name)), len(word))
            if name not in plan:
                self.assertEqual(result.codeword(name), word)
        for name, length in request.items():
            self.assertEqual(len(result.codeword(name)), length)
        self.assertEqual(result.reserved(), book.reserved())
        self.assertTrue(are_prefix_free(by_words.taken(result)))
        table = options(book, request, prices)
        self.assertIs(check_certificate(book, request, prices, table, price), True)
        self.assertIs(check_certificate(book, request, prices, table, price + 1), False)

    def impossible(self, book, request, prices):
        table = options(book, request, prices)
        self.assertIs(check_certificate(book, request, prices, table, None), True)
        level = by_words.no_plan_level(book, request, prices)
        history = History(book)
        with self.assertRaises(NoPlan) as context:
            history.change(request, prices)
        self.assertEqual(context.exception.level, level)
        # No set of kept names with all firm ones helps at this level.
        words = by_words.priced(book, request, prices)
        firm = [word for name, word in by_words.others(book, request).items() if name not in words]
        for kept in by_words.subsets(list(words)):
            self.assertIn(level, by_words.levels_that_fail(book, request, firm + [words[name] for name in kept]))


class GuaranteeTest(unittest.TestCase):
    def test_sets_that_can_be_kept(self):
        for draw, book, request, prices in tasks(91, 12):
            mine = list(by_words.priced(book, request, prices))
            words = by_words.others(book, request)
            for _ in range(10):
                recoded = draw.sample(mine, draw.randrange(len(mine) + 1))
                level = failing_level(book, request, [name for name in words if name not in recoded])
                try:
                    plan = make_plan(book, request, prices, recoded)
                except NoRoom as error:
                    self.assertEqual(error.level, level)
                else:
                    self.assertIs(level, None)
                    self.assertIs(is_plan(book, request, prices, plan), True)
                    self.assertEqual(sorted(plan), sorted([*request, *recoded]))
                    self.assertEqual(plan_price(book, request, prices, plan), sum(prices[name] for name in recoded))

    def test_combined_requests(self):
        count = 0
        for draw, book, both, prices in tasks(92, 60, 5, 9):
            names = list(both)
            first = {name: both[name] for name in names[::2]}
            second = {name: both[name] for name in names[1::2]}
            found = cheapest(book, first, prices)
            if found is not None:
                behind = apply_plan(book, first, prices, found[1])
                again = cheapest(behind, second, prices)
                if again is not None:
                    self.assertLessEqual(least(book, both, prices), found[0] + again[0])
                    count += found[0] + again[0] > 0
        self.assertGreater(count, 20)

    def test_depth_grows_by_one(self):
        for _, book, request, prices in tasks(93, 25):
            if book.depth < 6:
                deeper = Codebook(book.radix, book.depth + 1, book.words(), book.reserved())
                self.assertEqual(least(deeper, request, prices), least(book, request, prices))

    def test_a_firm_name_gets_a_price(self):
        for draw, book, request, prices in tasks(94, 25):
            firm = [name for name in by_words.others(book, request) if name not in prices]
            if firm and len(by_words.priced(book, request, prices)) < 12:
                more = {**prices, draw.choice(firm): draw.randint(1, 999)}
                self.assertLessEqual(least(book, request, more), least(book, request, prices))

    def test_a_name_or_a_reserved_string_is_removed(self):
        count = 0
        for _, book, request, prices in tasks(95, 10):
            price = least(book, request, prices)
            for name in by_words.others(book, request):
                words = {other: word for other, word in book.words().items() if other != name}
                less = least(Codebook(book.radix, book.depth, words, book.reserved()), request, prices)
                self.assertLessEqual(less, price)
                count += less < price
            for node in book.reserved():
                rest = [other for other in book.reserved() if other != node]
                self.assertLessEqual(least(Codebook(book.radix, book.depth, book.words(), rest), request, prices), price)
        self.assertGreater(count, 20)

    def test_exchanging_digits(self):
        for draw, book, request, prices in tasks(96, 12):
            keys = [key for key in strings_of("0123"[:book.radix], book.depth - 1) if draw.randrange(3)]
            exchange = {key: "".join(draw.sample("0123"[:book.radix], book.radix)) for key in keys}
            other = relabel(book, exchange)
            self.assertEqual(least(other, request, prices), least(book, request, prices))
            self.assertEqual(relabel(book, alike(book, other)), other)
            self.assertEqual(room(other), room(book))

    def test_names_with_the_same_codeword(self):
        count = 0
        for draw, book, request, prices in tasks(97, 20):
            found = cheapest(book, request, prices)
            if found is not None:
                result = apply_plan(book, request, prices, found[1])
                same = [name for name in book.words() if book.codeword(name) == result.codeword(name)]
                names = [draw.choice(same) for _ in range(8)] if same else []
                digits = encode(book, names)
                self.assertEqual(encode(result, names), digits)
                for one in (book, result):
                    self.assertEqual(decode(one, digits), names)
                    self.assertEqual(Decoder(one).feed(digits), names)
                count += len(names) > 0
        self.assertGreater(count, 50)

    def test_confused_or_not(self):
        draw = Random(98)
        for radix, depth in SHAPES:
            for _ in range(15):
                first, second = (drawn.book(draw, radix, draw.randint(1, depth), 5) for _ in range(2))
                digits, table = confusing(first, second), confusion_table(first, second)
                self.assertNotEqual(digits is None, table is None)
                if table is None:
                    self.assertNotEqual(decode(first, digits), decode(second, digits))
                else:
                    self.assertIs(check_table(first, second, table), True)

    def test_moved_or_not(self):
        for _, book, request, prices in tasks(99, 15):
            found = cheapest(book, request, prices)
            if found is not None:
                result = apply_plan(book, request, prices, found[1])
                order, cycle = move_order(book, result), move_cycle(book, result)
                self.assertNotEqual(order is None, cycle is None)
                if order is None:
                    self.assertTrue(by_rules.is_cycle(book, result, cycle))
                else:
                    self.assertTrue(by_rules.is_order(book, result, order))

    def test_texts(self):
        for _, book, _, _ in tasks(100, 5):
            self.assertEqual(parse_codebook(format_codebook(book)), book)


class ErrorTest(unittest.TestCase):
    def test_a_call_that_raises_an_error_changes_nothing(self):
        book = Codebook(2, 3, {"a": "000", "b": "010", "c": "100"})
        decoder = Decoder(book)
        decoder.feed("01")
        history = History(book)
        history.change({"d": 1}, {"a": 1, "b": 1, "c": 3})
        registry = Registry()
        registry.create("main", 2, 3)
        registry.request("main", {"a": 3}, {})
        registry.mark("here")
        shell = Shell()
        shell.run("create main 2 3")

        def seen():
            return repr([
                decoder.pending(), decoder.copy().feed("0"), len(history), history.spent(), snapshot(history.book()),
                registry.names(), snapshot(registry.book("main")), registry.spent("main"), shell.run("show main"),
                snapshot(book),
            ])

        before = seen()
        things = (None, -1, 99, "X", "", [], (), {}, [[]], {"a": []}, {"A": 1}, (0, "1"), "drop none", "request main")
        for thing, call in product(things, (
            decoder.feed, history.book, history.receive, registry.drop, registry.mark, registry.back, registry.batch,
            registry.book, registry.spent, shell.run, lambda thing: history.change(thing, None),
            lambda thing: history.change({"z": 1}, thing), lambda thing: history.stable(thing, thing),
            lambda thing: history.send(thing, version=7), lambda thing: registry.create("main", thing, thing),
            lambda thing: registry.request("main", thing, None), lambda thing: registry.remove("main", thing),
            lambda thing: registry.reserve("main", thing), lambda thing: registry.release("main", thing),
            lambda thing: registry.batch([("drop", "main"), thing]),
        )):
            if not (thing in (None, []) and call in (history.book, registry.batch)) and not (
                call == decoder.feed and thing == ""
            ):
                with self.assertRaises(CodeError):
                    call(thing)
                self.assertEqual(seen(), before)


class GeneralTest(unittest.TestCase):
    def test_calls_twice(self):
        """Results are new, depend on the arguments alone, and leave these alone."""
        for draw, book, request, prices in tasks(101, 4):
            words = by_words.others(book, request)
            mine = list(by_words.priced(book, request, prices))
            calls = [
                (options, book, request, prices), (cheapest, book, request, prices), (room, book), (gaps, book),
                (free_nodes, book, 1), (touched, book, 1), (failing_level, book, request, list(words)),
                (format_codebook, book), (confusing, book, book), (confusion_table, book, book),
                (move_order, book, book), (alike, book, book), (encode, book, list(book.words())),
                (check_certificate, book, request, prices, options(book, request, prices), least(book, request, prices)),
            ]
            if failing_level(book, request, [name for name in words if name not in mine]) is None:
                calls.append((make_plan, book, request, prices, mine))
            for call, *arguments in calls:
                fresh(self, call, *arguments)

    def test_order_of_the_keys_of_dicts(self):
        for draw, book, request, prices in tasks(102, 6):
            def mixed(table):
                names = list(table)
                draw.shuffle(names)
                return {name: table[name] for name in names}

            same = Codebook(book.radix, book.depth, mixed(book.words()), book.reserved()[::-1])
            self.assertEqual(repr(cheapest(same, mixed(request), mixed(prices))), repr(cheapest(book, request, prices)))
            self.assertEqual(options(same, mixed(request), mixed(prices)), options(book, request, prices))
            other = drawn.book(draw, book.radix, book.depth, 6)
            self.assertEqual(confusing(same, other), confusing(book, other))
            self.assertEqual(confusion_table(other, same), confusion_table(other, book))
            bare = Codebook(book.radix, book.depth, other.words(), [])
            whole = Codebook(book.radix, book.depth, book.words(), [])
            twin = Codebook(book.radix, book.depth, mixed(book.words()), [])
            self.assertEqual(move_order(twin, bare), move_order(whole, bare))
            self.assertEqual(move_cycle(bare, twin), move_cycle(bare, whole))
            exchange = {key: "0123"[:book.radix][::-1] for key in strings_of("0123"[:book.radix], book.depth - 1)[::2]}
            self.assertEqual(relabel(same, mixed(exchange)), relabel(book, exchange))
            self.assertEqual(alike(same, relabel(book, exchange)), alike(book, relabel(same, exchange)))

    def test_names_ascend(self):
        for _, book, request, prices in tasks(103, 10):
            found = cheapest(book, request, prices)
            if found is not None:
                self.assertEqual(list(found[1]), sorted(found[1]))
                history = History(book)
                history.change(request, prices)
                self.assertEqual(list(history.book().words()), sorted(history.book().words()))
            mapped = relabel(book, {"": "0123"[:book.radix][::-1]}).words()
            self.assertEqual(list(mapped), sorted(book.words()))
        self.assertEqual(list(canonical(2, 3, {"z": 2, "b": 3, "a": 1}).words()), ["a", "b", "z"])


if __name__ == "__main__":
    unittest.main()
