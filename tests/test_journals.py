"""Journals and their first invalid line (point 1.3)."""

import unittest

from letterheld.errors import InvalidLine
from letterheld.notation import format_journal, format_line, parse_journal
from tests import samples

ROWS = samples.SMALL_JOURNAL
LINES = [format_line(row) for row in ROWS]
INVALID = ["", " ", "regist", "use as", "use ash-1 ", " use ash-1", "used ash-1", "use ash-01", "use  ash-1", "use ash-1\r"]
TAILS = ["", "use as", "us", "use ash-1", "use ash-0", " ", "-", "register ash-1 7"]


def all_rows():
    return [row for _, _, row in samples.rows_of(samples.LINE_KINDS)]


class JournalsTest(unittest.TestCase):
    def check_first_invalid(self, text, number):
        with self.assertRaises(InvalidLine, msg=repr(text)) as caught:
            parse_journal(text)
        self.assertEqual(caught.exception.line, number, repr(text))

    def test_empty(self):
        self.assertEqual(format_journal([]), "")
        self.assertEqual(parse_journal(""), [])

    def test_each_line_ends_with_a_newline(self):
        self.assertEqual(format_journal(ROWS), "".join(line + "\n" for line in LINES))
        self.assertEqual(format_journal(ROWS[:1]), "register ash-1 7\n")

    def test_all_rows_there_and_back(self):
        rows = all_rows()
        self.assertEqual(parse_journal(format_journal(rows)), rows)

    def test_cut_at_any_place(self):
        text = format_journal(ROWS)
        for place in range(len(text) + 1):
            whole = text[:place].count("\n")
            self.assertEqual(parse_journal(text[:place]), ROWS[:whole])

    def test_arguments_are_not_changed_and_lists_are_new(self):
        rows = list(ROWS)
        text = format_journal(rows)
        self.assertEqual(rows, ROWS)
        first = parse_journal(text)
        first.append("more")
        self.assertEqual(parse_journal(text), ROWS)

    def test_behind_the_last_newline(self):
        for many in range(4):
            for tail in TAILS + INVALID + ["x" * 1000]:
                self.assertEqual(parse_journal(format_journal(ROWS[:many]) + tail), ROWS[:many])

    def test_first_invalid_line(self):
        for invalid in INVALID:
            for at in range(len(LINES) + 1):
                lines = LINES[:at] + [invalid] + LINES[at:]
                for tail in TAILS:
                    self.check_first_invalid("".join(line + "\n" for line in lines) + tail, at + 1)

    def test_a_second_invalid_line_behind_it(self):
        for at in range(4):
            for behind in range(3):
                lines = LINES[:at] + ["use ash-1 "] + LINES[:behind] + ["", "use"] + LINES[:1]
                for tail in TAILS:
                    self.check_first_invalid("".join(line + "\n" for line in lines) + tail, at + 1)

    def test_only_newlines_end_a_line(self):
        for sign in ("\r", "\x0b", "\x0c", "\x1c", "\x85", "\u2028", "\u2029"):
            self.check_first_invalid("use ash-1" + sign + "use ash-2\n", 1)
            self.check_first_invalid("use ash-1\nuse ash-2" + sign + "\n", 2)
            self.assertEqual(parse_journal("use ash-1\nuse ash-2" + sign), [("use", "ash-1")])

    def test_far_behind(self):
        self.check_first_invalid("use ash-1\n" * 999 + "use ash-0\n", 1000)

    def test_a_line_that_does_not_fit_is_still_a_line(self):
        self.assertEqual(parse_journal("use ash-1\nuse ash-1\n"), [("use", "ash-1"), ("use", "ash-1")])


class InterfaceExamplesTest(unittest.TestCase):
    def test_format_line(self):
        self.assertEqual(format_line(("split", "ash-1", "ash-2", 3, "ash-3", 4)), "split ash-1 ash-2 3 ash-3 4")

    def test_parse_journal(self):
        rows = parse_journal("register ash-1 7\ngive ash-1 2 bay\nuse as")
        self.assertEqual(repr(rows), "[('register', 'ash-1', 7), ('give', 'ash-1', 2, 'bay')]")


if __name__ == "__main__":
    unittest.main()
