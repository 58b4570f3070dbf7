"""Names of offices, numbers and ids of things (point 1.1)."""

import re
import unittest
from itertools import product

from letterheld.notation import id_of, is_office, is_thing, maker_of
from tests import samples

SIGNS = "azAZ019-_ "
# The counts around the limits: 12 letters of a name, 10 digits of the greatest number.
COUNTS = list(range(0, 15)) + [100, 5000]
OFFICE = re.compile("[a-z]{1,12}")
THING = re.compile("[a-z]{1,12}-([1-9][0-9]{0,8}|1000000000)")


def short_texts():
    for length in range(5):
        for signs in product(SIGNS, repeat=length):
            yield "".join(signs)


def long_texts():
    for many in COUNTS:
        for name in ("a" * many, "z" * many, "a" * many + "Z", "_" + "a" * many, "a" * many + " "):
            yield name
            for number in ("", "0", "1", "9", "01", "1000000000", "1000000001", "999999999", "9999999999"):
                yield name + "-" + number
        for digits in ("1" * many, "9" * many, "0" * many, "1" + "0" * many, "0" + "1" * many):
            yield "ash-" + digits


class NamesTest(unittest.TestCase):
    def check(self, text):
        self.assertIs(is_office(text), OFFICE.fullmatch(text) is not None, repr(text[:40]))
        self.assertIs(is_thing(text), THING.fullmatch(text) is not None, repr(text[:40]))

    def test_short_texts(self):
        for text in short_texts():
            self.check(text)

    def test_long_texts(self):
        for text in long_texts():
            self.check(text)

    def test_two_signs_at_each_place_of_an_id(self):
        for at in range(len("bay-10") + 1):
            for first, second in product(SIGNS, repeat=2):
                self.check("bay-10"[:at] + first + second + "bay-10"[at:])
                self.check("bay-10"[:at] + first + second + "bay-10"[at + 2:])

    def test_each_letter(self):
        for letter in "abcdefghijklmnopqrstuvwxyz":
            self.assertIs(is_office(letter), True)
            self.assertIs(is_office(letter.upper()), False)
            self.assertIs(is_thing(letter + "-1"), True)

    def test_signs_beside_the_ranges(self):
        for sign in "`{@[/:" + "\t\n\r\x00\u00e4\u017f\u0430\u0663\u00b2\uff41\uff11":
            for text in (sign, "ash" + sign, sign + "ash", "ash-1" + sign, "ash-" + sign, "ash-" + sign + "1"):
                self.check(text)

    def test_samples(self):
        for text in samples.OFFICES + samples.THINGS + samples.NO_OFFICES + samples.NO_THINGS:
            self.check(text)
        for text in samples.OFFICES:
            self.assertIs(is_office(text), True)
        for text in samples.THINGS:
            self.assertIs(is_thing(text), True)
        for text in samples.NO_OFFICES:
            self.assertIs(is_office(text), False, repr(text))
        for text in samples.NO_THINGS:
            self.assertIs(is_thing(text), False, repr(text[:40]))

    def test_id_of_and_maker_of(self):
        for office in samples.OFFICES:
            for number in samples.NUMBERS:
                thing = id_of(office, number)
                self.assertEqual(thing, office + "-" + str(number))
                self.assertIs(is_thing(thing), True)
                self.assertEqual(maker_of(thing), (office, number))
                self.assertIs(maker_of(thing)[1].__class__, int)
                self.assertIs(maker_of(thing).__class__, tuple)


if __name__ == "__main__":
    unittest.main()
