"""The six letters (point 1.4)."""

import unittest

from letterheld.errors import HeldError, InvalidLetter, InvalidLine
from letterheld.notation import format_letter, parse_letter
from tests import samples


class LettersTest(unittest.TestCase):
    def check_invalid(self, text, fault):
        with self.assertRaises(InvalidLetter, msg=(fault, text[:60])) as caught:
            parse_letter(text)
        self.assertIsInstance(caught.exception, HeldError)
        self.assertNotIsInstance(caught.exception, InvalidLine)

    def test_valid_letters(self):
        for _, _, letter in samples.rows_of(samples.LETTER_KINDS):
            text = " ".join(samples.words_of(letter))
            self.assertEqual(format_letter(letter), text)
            self.assertEqual(parse_letter(text), letter)
            self.assertIs(parse_letter(text).__class__, tuple)

    def test_numbers_are_integers(self):
        letter = parse_letter("deed ash bay ash-1 ash 40 2")
        self.assertEqual([part.__class__ for part in letter], [str, str, str, str, str, int, int])

    def test_an_office_may_write_to_itself(self):
        letter = ("claim", "ash", "ash", "ash-1", 40)
        self.assertEqual(parse_letter("claim ash ash ash-1 40"), letter)
        self.assertEqual(format_letter(letter), "claim ash ash ash-1 40")

    def test_spoilt_letters(self):
        for fault, text in samples.spoilt(samples.LETTER_KINDS):
            self.check_invalid(text, fault)

    def test_other_first_words(self):
        for fault, text in samples.spoilt_first_words(samples.LETTER_KINDS, ["give", "got", "pay", "join", "split"]):
            self.check_invalid(text, fault)

    def test_first_word_of_another_letter(self):
        for text in ("deed ash bay ash-1 40", "receipt ash bay ash-1", "notice ash bay ash-1 2", "noted ash bay ash-1 2",
                     "claim ash bay ash-1", "paid ash bay ash-1 ash 40 2"):
            self.check_invalid(text, "first word of another letter")

    def test_no_words(self):
        for text in ("", " ", "\n", "deed", "deed ", " deed"):
            self.check_invalid(text, "no words")

    def test_a_newline_is_no_part_of_a_letter(self):
        self.check_invalid("notice ash bay ash-1\n", "a newline")

    def test_lines_are_no_letters(self):
        for _, _, row in samples.rows_of(samples.LINE_KINDS):
            self.check_invalid(" ".join(samples.words_of(row)), "a line")


if __name__ == "__main__":
    unittest.main()
