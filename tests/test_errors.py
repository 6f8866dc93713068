"""The errors of the interface."""

import unittest

from keptcode import errors

WITH_LINE = ("ParseError",)
WITH_POSITION = ("DecodeError",)
WITH_LEVEL = ("NoRoom", "NoPlan")
WITH_STRING = (
    "InvalidCodebook", "UnknownName", "InvalidLength", "InvalidRequest", "InvalidKept", "InvalidPrices",
    "InvalidPlan", "TooLarge", "InvalidExchange", "InvalidPair", "UnknownVersion", "InvalidMessage",
    "InvalidName", "DuplicateName", "NotFree", "NotReserved", "UnknownMark", "InvalidCommand", "InvalidLine",
)


class ErrorsTest(unittest.TestCase):
    def test_base(self):
        self.assertEqual(errors.CodeError.__bases__, (ValueError,))

    def test_every_error_derives_directly_from_the_base(self):
        for name in WITH_LINE + WITH_POSITION + WITH_LEVEL + WITH_STRING:
            with self.subTest(name=name):
                error = getattr(errors, name)
                self.assertEqual(error.__bases__, (errors.CodeError,))
                self.assertEqual(error.__name__, name)
                self.assertEqual(error.__module__, "keptcode.errors")

    def test_there_are_no_other_errors(self):
        found = {name for name, thing in vars(errors).items() if isinstance(thing, type)}
        listed = set(WITH_LINE + WITH_POSITION + WITH_LEVEL + WITH_STRING)
        self.assertEqual(found, listed | {"CodeError"})

    def test_errors_with_a_number(self):
        for names, attribute in ((WITH_LINE, "line"), (WITH_POSITION, "position"), (WITH_LEVEL, "level")):
            for name in names:
                for number in (0, 3, 10 ** 6):
                    with self.subTest(name=name, number=number):
                        error = getattr(errors, name)
                        self.assertEqual(vars(error(number)), {attribute: number})
                        self.assertEqual(vars(error(**{attribute: number})), {attribute: number})
                        with self.assertRaises(errors.CodeError) as context:
                            raise error(number)
                        self.assertIs(type(context.exception), error)

    def test_errors_with_a_string(self):
        for name in WITH_STRING:
            with self.subTest(name=name):
                error = getattr(errors, name)
                self.assertEqual(str(error("some words")), "some words")
                with self.assertRaises(errors.CodeError) as context:
                    raise error("some words")
                self.assertIs(type(context.exception), error)


if __name__ == "__main__":
    unittest.main()
