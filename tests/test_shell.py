"""Lines of the shell: [2], [11] (last item), [35]."""

import unittest
from itertools import product
from random import Random

from keptcode.coding import encode
from keptcode.errors import (
    CodeError, DecodeError, DuplicateName, InvalidCodebook, InvalidLine, InvalidName, InvalidRequest, NoPlan, NotFree,
    NotReserved, TooLarge, UnknownMark, UnknownName,
)
from keptcode.registry import Registry
from keptcode.shell import Shell
from keptcode.text import format_codebook
from keptcode.tree import room
from tests import by_words
from tests.things import EMPTY_THINGS, ODD_THINGS, caught

NUMBERS = ("1", "2", "3", "9", "10", "99", "100", "999")
NO_NUMBERS = (
    "0", "00", "01", "001", "0999", "1000", "1001", "9999", "10000", "-1", "+1", "-", "1.0", "1e1", "1_0", "0x1", "a",
    "one", "1a", "a1", "\u0663", "\u00b2", "1\uff11", "1\n", "\n1", "1\t", "\t1", "1\t2", ",", "1,", "''", "1" * 40,
)
# These words are neither names nor nodes nor labels that exist.
ODD_WORDS = ("-", "/", "0", "Main", "main\n", "\tmain", "main\t", "\n", "\t", "ma\tin", "mainmainm", "names", "5", "~", "A")


def example():
    shell = Shell()
    shell.run("create main 2 3")
    shell.run("request main - a 1 b 3")
    return shell


def seen(shell):
    """All that can be seen of a shell, its marks aside."""
    names = shell.run("names")
    if names == "-":
        return [names]
    return [names] + [shell.run(f"{word} {name}") for name in names.split() for word in ("show", "spent", "room")]


class ExampleTest(unittest.TestCase):
    def test_example(self):
        shell = Shell()
        self.assertEqual(shell.run("create main 2 3"), "ok")
        self.assertEqual(shell.run("request main - a 1 b 3"), "0")
        self.assertEqual(shell.run("show main"), "2 3 / a 0 / b 100")
        self.assertEqual(shell.run("encode main b a"), "1000")


class LineTest(unittest.TestCase):
    def test_every_line(self):
        shell = Shell()
        for line, answer in (
            ("names", "-"), ("create main 2 3", "ok"), ("show main", "2 3"), ("room main", "2 4 8"), ("spent main", "0"),
            ("request main - a 3", "0"), ("reserve main 001", "ok"), ("reserve main 01", "ok"),
            ("request main 5 b 3", "0"), ("show main", "2 3 / a 000 / b 100 / - 001 / - 01"), ("room main", "0 1 3"),
            ("release main 001", "ok"), ("release main 01", "ok"), ("mark here", "ok"), ("request main 7 z 1", "7"),
            ("spent main", "7"), ("names", "main"), ("create alt 4 6", "ok"), ("names", "alt main"),
            ("encode main a", "101"), ("encode main z b z", "01000"), ("decode main 0100101", "z b a"),
            ("decode main 0", "z"), ("show alt", "4 6"), ("room alt", "4 16 64 256 1024 4096"), ("spent alt", "0"),
            ("remove main z", "ok"), ("show main", "2 3 / a 101 / b 100"), ("drop alt", "ok"), ("names", "main"),
            ("back here", "ok"), ("show main", "2 3 / a 000 / b 100"), ("spent main", "0"), ("drop main", "ok"),
            ("names", "-"), ("back here", "ok"), ("names", "main"),
        ):
            found = shell.run(line)
            self.assertEqual(found, answer, line)
            self.assertIs(type(found), str)

    def test_names_ascend(self):
        shell = Shell()
        for name in ("m", "b", "zz", "a", "ab"):
            shell.run(f"create {name} 2 1")
        self.assertEqual(shell.run("names"), "a ab b m zz")

    def test_price_is_for_every_name(self):
        for price in ("1", "7", "999"):
            shell = Shell()
            for line in ("create main 2 3", "request main - a 3", "reserve main 001", "reserve main 01",
                         "request main - b 3", "release main 001", "release main 01"):
                shell.run(line)
            self.assertEqual(caught(self, NoPlan, shell.run, "request main - z 1").level, 1)
            self.assertEqual(shell.run(f"request main {price} z 1"), price)
            self.assertEqual(shell.run("spent main"), price)

    def test_numbers(self):
        for word in NUMBERS + NO_NUMBERS:
            shell = example()
            before = seen(shell)
            number = int(word) if word in NUMBERS else None
            cases = (
                (f"create x {word} 2", number in (2, 3, 4), InvalidCodebook),
                (f"create x 2 {word}", number in range(1, 7), InvalidCodebook),
                (f"request main - z {word}", number in (2, 3), InvalidRequest),
                (f"request main {word} z 2", number is not None, None),
            )
            for line, fine, error in cases:
                shell = example()
                if number is None and not (word == "-" and line.startswith("request main -") and line.endswith("z 2")):
                    caught(self, InvalidLine, shell.run, line)
                    self.assertEqual(seen(shell), before)
                elif fine or number is None:
                    self.assertIn(shell.run(line), ("ok", "0"))
                else:
                    error = NoPlan if line == "request main - z 1" else error
                    caught(self, error, shell.run, line)
                    self.assertEqual(seen(shell), before)

    def test_every_number(self):
        shell = example()
        for number in range(-2, 1003):
            if 1 <= number <= 999:
                self.assertEqual(shell.run(f"request main {number} b 3"), "0")
                if number > 3:
                    caught(self, InvalidRequest, shell.run, f"request main - b {number}")
            else:
                caught(self, InvalidLine, shell.run, f"request main {number} b 3")
                caught(self, InvalidLine, shell.run, f"request main - b {number}")
                caught(self, InvalidLine, shell.run, f"create x 2 {number}")

    def test_several_pairs(self):
        shell = Shell()
        shell.run("create main 3 4")
        self.assertEqual(shell.run("request main - d 2 c 1 b 4 a 2"), "0")
        self.assertEqual(shell.run("show main"), "3 4 / a 10 / b 1200 / c 0 / d 11")
        self.assertEqual(shell.run("request main 4 b 1 a 4"), "0")
        self.assertEqual(shell.run("show main"), "3 4 / a 1000 / b 2 / c 0 / d 11")

    def test_encode_and_decode(self):
        draw = Random(51)
        shell = Shell()
        shell.run("create main 2 4")
        shell.run("request main - a 1 b 2 c 4 d 4")
        registry = Registry()
        registry.create("main", 2, 4)
        registry.request("main", {"a": 1, "b": 2, "c": 4, "d": 4}, {})
        for _ in range(50):
            names = [draw.choice("abcd") for _ in range(draw.randint(1, 9))]
            digits = shell.run("encode main " + " ".join(names))
            self.assertEqual(digits, encode(registry.book("main"), names))
            self.assertEqual(shell.run(f"decode main {digits}"), " ".join(names))

    def test_by_name(self):
        self.assertEqual(Shell().run(line="names"), "-")


class WrongLineTest(unittest.TestCase):
    def refused(self, shell, line):
        before = seen(shell)
        caught(self, InvalidLine, shell.run, line)
        self.assertEqual(seen(shell), before)

    def test_other_things(self):
        shell = example()
        for thing in ODD_THINGS + EMPTY_THINGS + (["names"], ("names",), {"names": 1}, 5):
            self.refused(shell, thing)

    def test_spaces(self):
        lines = ("names", "create x 2 3", "remove main a", "reserve main 11", "release main 11", "drop main", "mark here",
                 "back here", "request main - z 2", "request main 4 y 3 z 3", "show main", "room main", "spent main",
                 "encode main a", "encode main a b", "decode main 0")
        for line in lines:
            shell = example()
            for wrong in (" " + line, line + " ", "  " + line, line + "  ", " " + line + " "):
                self.refused(shell, wrong)
            for at, sign in enumerate(line):
                if sign == " ":
                    self.refused(shell, line[:at] + " " + line[at:])
                    self.refused(shell, line[:at] + "   " + line[at:])
                    # A tab or a line feed is part of a word.
                    for other in ("\t", "\n"):
                        changed = line[:at] + other + line[at + 1:]
                        known = line == "encode main a b" and changed.startswith("encode ")
                        caught(self, UnknownName if known else InvalidLine, shell.run, changed)
        for line in ("", " ", "  ", "\t", "\n", "\t\n", " \t "):
            self.refused(example(), line)

    def test_first_words(self):
        shell = example()
        for word in ("Names", "name", "namess", "batch", "log", "copy", "book", "run", "assign", "main", "-", "ok", "0",
                     "create\n", "\tnames", "names\n", "names\t", "__init__", "exit"):
            for rest in ("", " main", " main a", " main 2 3", " main - a 1", " main 0"):
                self.refused(shell, word + rest)

    def test_numbers_of_words(self):
        words = ["main", "2", "3", "a", "1", "b", "2"]
        right = {"create": [3], "remove": [2], "reserve": [2], "release": [2], "drop": [1], "mark": [1], "back": [1],
                 "show": [1], "room": [1], "spent": [1], "decode": [2], "names": [0],
                 "encode": [2, 3, 4, 5, 6, 7], "request": []}
        for command, counts in right.items():
            for count in range(len(words) + 1):
                if count not in counts:
                    self.refused(example(), " ".join([command, *words[:count]]))

    def test_request_lines(self):
        shell = example()
        for line in ("request", "request main", "request main -", "request main 5", "request main - a",
                     "request main - a 1 b", "request main a 1", "request main - 1 a", "request main - a b",
                     "request - main a 1", "request main -- a 1", "request main a - 1", "request main - a -",
                     "request main 5 6 a 1", "request main - a 1 2", "request main - a 1 b 2 c", "request main - - -"):
            self.refused(shell, line)

    def test_a_word_twice_in_a_request(self):
        for name, price, extra in product(("main", "none", "X"), ("-", "4"), ("", " c 3")):
            for line in ("a 3 a 3", "a 3 a 2", "b 3 c 2 b 3", "A 3 A 3", "- 1 - 2", "\t 1 b 2 \t 3", "2 3 2 3"):
                self.refused(example(), f"request {name} {price} {line}{extra}")
        shell = example()
        # These words are different, or one of them is not a WORD.
        self.assertEqual(shell.run("request main - aa 3 ab 3"), "0")
        shell.run("create two 2 3")
        self.assertEqual(shell.run("request two 2 two 2 z 2"), "0")
        self.assertEqual(shell.run("encode main a a a"), "000")
        caught(self, InvalidRequest, shell.run, "request main - z 3 z\t 3")

    def test_invalid_lines_come_first(self):
        shell = example()
        for line in ("create X 0 2", "create main 2 x", "request none - a 0", "request none x a 1", "request none - a 1 a 1",
                     "request main - A 1 A 1", "request main 0 z 9", "show none main", "encode none", "decode none",
                     "create X 2", "mark X Y", "back none none", "remove none", "spent none 1", "request none 1000 a 1"):
            self.refused(shell, line)


class ErrorTest(unittest.TestCase):
    def failed(self, shell, error, line):
        before = seen(shell)
        found = caught(self, error, shell.run, line)
        self.assertEqual(seen(shell), before)
        return found

    def test_names_that_do_not_exist(self):
        shell = example()
        shell.run("mark here")
        for name in ("none", "here", "a", *ODD_WORDS):
            for line in (f"request {name} - a 1", f"request {name} 3 A 999", f"remove {name} a", f"reserve {name} 0",
                         f"reserve {name} x", f"release {name} 0", f"drop {name}", f"show {name}", f"room {name}",
                         f"spent {name}", f"encode {name} a", f"encode {name} X", f"decode {name} 0", f"decode {name} x"):
                self.failed(shell, UnknownName, line)

    def test_create(self):
        shell = example()
        for word in ODD_WORDS:
            if word != "names":
                self.failed(shell, InvalidName, f"create {word} 2 3")
                self.failed(shell, InvalidName, f"create {word} 5 7")
        self.failed(shell, DuplicateName, "create main 2 3")
        self.failed(shell, DuplicateName, "create main 9 9")
        for radix, depth in (("1", "3"), ("5", "3"), ("999", "1"), ("2", "7"), ("2", "999"), ("10", "10")):
            self.failed(shell, InvalidCodebook, f"create x {radix} {depth}")
        self.assertEqual(shell.run("create names 4 1"), "ok")

    def test_words_that_do_not_exist(self):
        shell = example()
        for word in ("c", "main", *ODD_WORDS):
            self.failed(shell, UnknownName, f"remove main {word}")
            self.failed(shell, UnknownName, f"encode main {word}")
            self.failed(shell, UnknownName, f"encode main a {word} b")

    def test_words_with_tabs_and_line_feeds(self):
        shell = example()
        self.failed(shell, UnknownName, "encode main a\tb")
        self.failed(shell, UnknownName, "encode main a\nb")
        self.failed(shell, UnknownName, "show main\n")
        self.failed(shell, UnknownName, "show \tmain")
        self.failed(shell, InvalidRequest, "request main - z\n 2")
        self.assertEqual(self.failed(shell, DecodeError, "decode main 0\n").position, 1)
        self.assertEqual(self.failed(shell, DecodeError, "decode main 0\t0").position, 1)
        self.failed(shell, NotFree, "reserve main 11\n")
        self.failed(shell, InvalidName, "mark a\tb")

    def test_request(self):
        shell = example()
        for line in ("z 4", "z 999", "Z 2", "z 2 y 4", "- 2", "0 1", "a\n 1", "abcdefghi 2"):
            self.failed(shell, InvalidRequest, f"request main - {line}")
            self.failed(shell, InvalidRequest, f"request main 9 {line}")
        self.assertEqual(self.failed(shell, NoPlan, "request main - z 1").level, 1)
        self.assertEqual(self.failed(shell, NoPlan, "request main - x 2 y 2").level, 2)
        self.assertEqual(self.failed(shell, NoPlan, "request main 3 x 2 y 2").level, 3)
        self.assertEqual(self.failed(shell, NoPlan, "request main - w 3 x 3 y 3 z 3").level, 3)

    def test_more_than_twelve_names(self):
        shell = Shell()
        shell.run("create big 4 2")
        words = "abcdefghijklm"
        shell.run("request big - " + " ".join(f"{word} 2" for word in words))
        self.failed(shell, TooLarge, "request big 5 z 2")
        self.failed(shell, TooLarge, "request big 5 z 1")
        self.failed(shell, InvalidRequest, "request big 5 z 3")
        self.assertEqual(self.failed(shell, NoPlan, "request big - z 1").level, 1)
        self.assertEqual(shell.run("request big 5 a 2"), "0")
        self.assertEqual(shell.run("request big - z 2"), "0")
        shell.run("remove big m")
        shell.run("remove big l")
        self.assertEqual(shell.run("request big 5 y 2"), "0")
        self.failed(shell, TooLarge, "request big 5 w 1 x 2")

    def test_reserve_and_release(self):
        shell = example()
        for word in ("0", "1", "10", "100", "00", "2", "x", "1111", *ODD_WORDS):
            self.failed(shell, NotFree, f"reserve main {word}")
            self.failed(shell, NotReserved, f"release main {word}")
        shell.run("reserve main 11")
        for word in ("1", "11", "110"):
            self.failed(shell, NotFree, f"reserve main {word}")
        for word in ("1", "110", "0"):
            self.failed(shell, NotReserved, f"release main {word}")
        shell.run("release main 11")
        self.failed(shell, NotReserved, "release main 11")

    def test_marks(self):
        shell = example()
        for word in ODD_WORDS:
            if word != "names":
                self.failed(shell, InvalidName, f"mark {word}")
            self.failed(shell, UnknownMark, f"back {word}")
        self.failed(shell, UnknownMark, "back main")
        shell.run("mark main")
        self.failed(shell, DuplicateName, "mark main")
        shell.run("drop main")
        self.assertEqual(shell.run("back main"), "ok")
        self.assertEqual(seen(shell), seen(example()))

    def test_decode(self):
        shell = example()
        for digits, position in (("1", 0), ("01", 1), ("0100101", 4), ("0x", 1), ("100 0", None), ("-", 0), ("2", 0)):
            if position is not None:
                self.assertEqual(self.failed(shell, DecodeError, f"decode main {digits}").position, position)
        shell.run("create bare 2 3")
        self.assertEqual(self.failed(shell, DecodeError, "decode bare 0").position, 0)
        self.failed(shell, UnknownName, "encode bare a")
        self.assertEqual(shell.run("show bare"), "2 3")

    def test_shells_are_independent(self):
        one, other = Shell(), Shell()
        one.run("create main 2 3")
        self.assertEqual((one.run("names"), other.run("names")), ("main", "-"))


class RegistryTest(unittest.TestCase):
    """Drawn lines, against a registry that gets the same commands."""

    def draw_line(self, draw):
        name = draw.choice(["aa", "aa", "aa", "bb", "X"])
        word = draw.choice("abcd")
        node = draw.choice(by_words.all_nodes(2, 3) + ["2", "x"])
        kept = draw.choice(["1", "11", "111", "2"])
        return draw.choice([
            *(f"create {name} {draw.choice('2235')} {draw.choice('2337')}" for _ in range(2)), f"remove {name} {word}",
            f"reserve {name} {kept}", f"release {name} {kept}", f"drop {name}", f"mark {name}", f"back {name}",
            f"show {name}", f"room {name}", f"spent {name}", f"encode {name} {word} {draw.choice('abcd')}",
            f"decode {name} {node}", "names",
            *(f"request {name} {draw.choice('-358')} {word} {draw.randint(1, 4)}" for _ in range(9)),
        ])

    def wanted(self, registry, line):
        command, *words = line.split(" ")
        if command == "create":
            return registry.create(words[0], int(words[1]), int(words[2])) or "ok"
        if command in ("remove", "reserve", "release", "drop", "mark", "back"):
            return getattr(registry, command)(*words) or "ok"
        if command == "names":
            return " ".join(registry.names()) or "-"
        book = registry.book(words[0])
        if command == "request":
            prices = {} if words[1] == "-" else {name: int(words[1]) for name in book.words()}
            return str(registry.request(words[0], {words[2]: int(words[3])}, prices))
        if command == "show":
            return " / ".join(format_codebook(book).split("\n"))
        if command == "room":
            return " ".join(map(str, room(book)))
        if command == "spent":
            return str(registry.spent(words[0]))
        if command == "encode":
            return encode(book, words[1:])
        parts, rest = [], words[1]
        while rest:
            found = [name for name, word in book.words().items() if rest.startswith(word)]
            if not found:
                raise DecodeError(len(words[1]) - len(rest))
            parts.append(found[0])
            rest = rest[len(book.codeword(found[0])):]
        return " ".join(parts)

    def test_drawn_lines(self):
        answers, errors = set(), set()
        for seed in range(15):
            draw, shell, registry = Random(seed), Shell(), Registry()
            for _ in range(300):
                line = self.draw_line(draw)
                try:
                    wanted = self.wanted(registry, line)
                except CodeError as error:
                    found = caught(self, type(error), shell.run, line)
                    self.assertEqual(vars(found), vars(error))
                    errors.add(type(error))
                else:
                    self.assertEqual(shell.run(line), wanted, line)
                    answers.add(line.split(" ")[0])
                self.assertEqual(shell.run("names"), " ".join(registry.names()) or "-")
        self.assertEqual((len(answers), len(errors)), (14, 10), answers)


if __name__ == "__main__":
    unittest.main()
