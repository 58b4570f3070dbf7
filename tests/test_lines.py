"""The twelve lines of a journal (point 1.2)."""

import unittest

from letterheld.errors import HeldError, InvalidLine
from letterheld.notation import format_line, parse_line
from tests import samples


class LinesTest(unittest.TestCase):
    def check_invalid(self, text, fault):
        with self.assertRaises(InvalidLine, msg=(fault, text[:60])) as caught:
            parse_line(text)
        self.assertEqual(caught.exception.line, 1)
        self.assertIsInstance(caught.exception, HeldError)

    def test_valid_lines(self):
        for _, _, row in samples.rows_of(samples.LINE_KINDS):
            line = " ".join(samples.words_of(row))
            self.assertEqual(format_line(row), line)
            self.assertEqual(parse_line(line), row)
            self.assertIs(parse_line(line).__class__, tuple)

    def test_all_twelve_words_are_tried(self):
        self.assertEqual(len({word for word, _ in samples.LINE_KINDS}), 12)

    def test_numbers_are_integers(self):
        row = parse_line("got ash-1 ash 40 2 ash")
        self.assertEqual([part.__class__ for part in row], [str, str, str, int, int, str])

    def test_long_splits_and_joins(self):
        for many in (7, 100):
            ids = ["ash-" + str(number) for number in range(2, 2 + many)]
            join = ("join", "ash-1", *ids)
            parts = ("split", "ash-1", *(word for thing in ids for word in (thing, 3)))
            for row in (join, parts):
                line = " ".join(samples.words_of(row))
                self.assertEqual(format_line(row), line)
                self.assertEqual(parse_line(line), row)
            self.check_invalid("split ash-1 " + " ".join(ids), "no quantities")

    def test_ids_may_stand_twice(self):
        # The form of a line asks for ids only; whether they differ is for the book to tell.
        for line in ("join ash-1 ash-1 ash-1", "split ash-1 ash-1 1 ash-1 1", "give ash-1 1 ash"):
            self.assertEqual(format_line(parse_line(line)), line)

    def test_spoilt_lines(self):
        for fault, text in samples.spoilt(samples.LINE_KINDS):
            self.check_invalid(text, fault)

    def test_other_first_words(self):
        for fault, text in samples.spoilt_first_words(samples.LINE_KINDS, ["deed", "claim", "sender"]):
            self.check_invalid(text, fault)

    def test_first_word_of_another_line(self):
        for text in ("use ash-1 7", "register ash-1", "give ash-1 7", "pay ash-1 7", "join ash-1 7 ash-2",
                     "split ash-1 ash-2 ash-3", "got ash-1 bay 7", "notice ash-1 7", "receipt ash-1 bay"):
            self.check_invalid(text, "first word of another line")

    def test_too_few_parts(self):
        for text in ("split", "split ash-1", "split ash-1 ash-2", "split ash-1 ash-2 7", "split ash-1 ash-2 7 ash-3",
                     "join", "join ash-1", "join ash-1 ash-2"):
            self.check_invalid(text, "too few parts")

    def test_no_words(self):
        for text in ("", " ", "  ", "\n", "\t", "use", "use ", " use"):
            self.check_invalid(text, "no words")

    def test_letters_are_no_lines(self):
        for _, _, letter in samples.rows_of(samples.LETTER_KINDS):
            self.check_invalid(" ".join(samples.words_of(letter)), "a letter")


if __name__ == "__main__":
    unittest.main()
