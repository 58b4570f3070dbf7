"""The error classes of the interface."""

import unittest

from letterheld import errors

PLAIN = [
    "InvalidLetter", "NotHeld", "Frozen", "UnknownThing", "InvalidQuantity", "InvalidOffice", "InvalidThings",
    "NoLetter", "InvalidCommand",
]
WITH_LINE = ["InvalidLine", "BrokenJournal"]


class ErrorsTest(unittest.TestCase):
    def test_base_class(self):
        self.assertEqual(errors.HeldError.__bases__, (ValueError,))

    def test_all_stand_directly_under_it(self):
        for name in PLAIN + WITH_LINE:
            with self.subTest(name):
                self.assertEqual(getattr(errors, name).__bases__, (errors.HeldError,))

    def test_there_are_no_others(self):
        found = sorted(name for name, value in vars(errors).items() if isinstance(value, type))
        self.assertEqual(found, sorted(PLAIN + WITH_LINE + ["HeldError"]))

    def test_line(self):
        for name in WITH_LINE:
            for number in (1, 12):
                with self.subTest(name, number=number):
                    self.assertEqual(getattr(errors, name)(number).line, number)

    def test_plain_ones_take_a_message(self):
        for name in PLAIN:
            with self.subTest(name):
                self.assertEqual(str(getattr(errors, name)("why")), "why")


if __name__ == "__main__":
    unittest.main()
