"""Names, journals and lines that an office cannot come up from (points 1.3, 3.4 and 4.1)."""

import unittest

from letterheld.errors import BrokenJournal, HeldError, InvalidLine, InvalidOffice
from letterheld.office import Office

TOP = 1000000000
ROWS = [
    "register ash-1 10", "register ash-2 20", "register ash-3 30", "register ash-4 40", "register ash-5 50",
    "register ash-6 60", "register ash-7 70", "register ash-8 1000000000", "register ash-9 999999990",
    "give ash-2 2 bay",
    "use ash-3",
    "split ash-4 ash-10 15 ash-11 25",
    "recall ash-5",
    "join ash-12 ash-6 ash-7",
    "got bay-1 bay 5 2 bay",
    "got bay-2 bay 6 2 bay",
    "got cob-1 bay 7 4 cob",
    "give cob-1 5 cob",
    "recall cob-1",
    "notice zed-1 bay",
    "got cob-2 cob 8 3 bay",
    "notice cob-2 cob",
    "pay ash-20 bay 4",
    "register ash-13 6",
    "give ash-13 2 zed",
    "got ash-13 ash 6 3 bay",
    "notice ash-30 bay",
]
JOURNAL = "".join(row + "\n" for row in ROWS)

# Lines of the right form that do not fit behind these rows, and good ones near them.
BAD = {
    "register": [
        "register ash-13 5", "register ash-15 5", "register ash-1 5", "register bay-14 5", "register ash-1000000000 5",
        "register zed-1 5", "register bay-3 5", "register ash-30 5"],
    "give": [
        "give ash-1 1 bay", "give ash-1 3 bay", "give ash-1 2 ash", "give bay-1 2 cob", "give bay-1 4 cob",
        "give ash-1 1000000000 bay", "give ash-2 3 cob", "give ash-3 2 bay", "give ash-4 2 bay", "give ash-5 2 bay",
        "give ash-6 2 bay", "give ash-14 2 bay", "give zed-1 1 bay", "give zed-1 2 bay", "give cob-1 6 bay",
        "give cob-2 4 bay", "give bay-9 2 bay", "give bay-1 3 ash", "give ash-13 3 bay", "give ash-13 2 bay"],
    "got": [
        "got bay-3 bay 5 2 ash", "got bay-3 bay 5 1 bay", "got ash-14 ash 5 2 bay", "got ash-30 ash 5 2 bay",
        "got ash-1 ash 10 2 bay", "got ash-2 ash 20 2 bay", "got ash-2 ash 20 1 bay", "got ash-2 ash 21 3 bay",
        "got ash-2 ash 19 3 bay", "got ash-2 bay 20 3 bay", "got ash-2 ash 20 3 ash", "got ash-3 ash 30 2 bay",
        "got ash-4 ash 40 2 bay", "got ash-5 ash 50 2 bay", "got ash-6 ash 60 2 bay", "got bay-1 bay 5 2 bay",
        "got bay-1 bay 5 3 bay", "got cob-1 bay 7 5 cob", "got cob-1 bay 7 4 cob", "got cob-1 cob 7 6 cob",
        "got cob-1 bay 8 6 cob", "got zed-1 zed 5 1 bay", "got zed-1 zed 5 2 ash", "got cob-2 cob 8 4 bay",
        "got ash-13 ash 6 3 bay", "got ash-13 ash 6 4 bay"],
    "split": [
        "split ash-1 ash-14 4 ash-15 5", "split ash-1 ash-14 6 ash-15 5", "split ash-1 ash-15 5 ash-14 5",
        "split ash-1 ash-14 5 ash-16 5", "split ash-1 ash-13 5 ash-14 5", "split ash-1 ash-15 5 ash-16 5",
        "split ash-1 ash-14 5 ash-14 5", "split ash-1 bay-14 5 bay-15 5", "split ash-1 ash-14 5 bay-15 5",
        "split ash-2 ash-14 10 ash-15 10", "split ash-3 ash-14 15 ash-15 15", "split ash-4 ash-14 15 ash-15 25",
        "split ash-5 ash-14 25 ash-15 25", "split ash-6 ash-14 30 ash-15 30", "split ash-14 ash-14 5 ash-15 5",
        "split zed-1 ash-14 1 ash-15 1", "split cob-2 ash-14 4 ash-15 4", "split bay-1 bay-3 2 bay-4 3",
        "split ash-1 ash-14 5 ash-15 4 ash-17 1", "split ash-8 ash-14 1000000000 ash-15 1"],
    "join": [
        "join ash-14 ash-1 ash-1", "join ash-14 ash-1 bay-1", "join ash-14 ash-1 ash-10 bay-1", "join ash-15 ash-1 ash-10",
        "join ash-13 ash-1 ash-10", "join bay-14 ash-1 ash-10", "join bay-3 bay-1 bay-2", "join ash-14 ash-1 ash-2",
        "join ash-14 ash-3 ash-1", "join ash-14 ash-1 ash-4", "join ash-14 ash-5 ash-1", "join ash-14 ash-1 ash-6",
        "join ash-14 ash-1 ash-14", "join ash-14 bay-1 zed-1", "join ash-14 cob-2 bay-1", "join ash-14 ash-8 ash-1",
        "join ash-14 ash-9 ash-1 ash-10", "join ash-14 ash-9 ash-11", "join ash-14 ash-1 ash-10 ash-1"],
    "use": ["use ash-2", "use ash-3", "use ash-4", "use ash-5", "use ash-6", "use ash-14", "use cob-1", "use zed-1",
            "use cob-2", "use bay-9"],
    "recall": ["recall ash-5", "recall cob-1", "recall cob-2", "recall zed-1", "recall ash-14", "recall bay-9",
               "recall ash-30"],
    "notice": ["notice ash-1 ash", "notice bay-1 ash", "notice bay-9 ash", "notice ash-5 bay", "notice cob-1 bay",
               "notice cob-1 cob", "notice zed-1 bay", "notice zed-1 zed", "notice cob-2 cob", "notice ash-30 bay"],
    "receipt": ["receipt ash-2 1", "receipt ash-2 3", "receipt ash-1 1", "receipt ash-1 2", "receipt bay-1 2",
                "receipt cob-1 4", "receipt cob-1 6", "receipt zed-1 1", "receipt bay-9 2", "receipt ash-3 1",
                "receipt ash-13 2", "receipt ash-13 3", "receipt ash-14 2"],
    "noted": ["noted cob-1 bay", "noted cob-1 ash", "noted ash-2 bay", "noted ash-1 bay", "noted ash-5 bay",
              "noted zed-1 bay", "noted cob-2 cob", "noted cob-2 bay", "noted bay-9 bay", "noted ash-13 zed"],
    "pay": ["pay ash-20 bay 4", "pay ash-20 cob 4", "pay ash-20 bay 5", "pay ash-20 ash 4"],
    "paid": ["paid ash-3 29", "paid ash-3 31", "paid ash-1 10", "paid ash-2 20", "paid ash-4 40", "paid ash-5 50",
             "paid zed-1 1", "paid bay-9 5", "paid cob-1 7"],
}
GOOD = {
    "register": ["register ash-14 1", "register ash-14 1000000000"],
    "give": ["give ash-1 2 bay", "give bay-1 3 cob", "give bay-1 3 bay", "give ash-13 4 zed", "give ash-12 2 unheardof"],
    "got": ["got bay-3 bay 5 2 bay", "got bay-3 zed 1000000000 1000000000 cob", "got ash-2 ash 20 3 bay",
            "got ash-2 ash 20 9 cob", "got cob-1 bay 7 6 cob", "got cob-1 bay 7 1000000000 zed", "got zed-1 bay 9 2 cob",
            "got bay-3 ash 5 2 bay"],
    "split": ["split ash-1 ash-14 5 ash-15 5", "split ash-1 ash-14 1 ash-15 2 ash-16 7", "split bay-1 ash-14 1 ash-15 4",
              "split ash-8 ash-14 1 ash-15 999999999"],
    "join": ["join ash-14 ash-1 ash-10", "join ash-14 ash-10 ash-1", "join ash-14 bay-1 bay-2", "join ash-14 ash-9 ash-1",
             "join ash-14 ash-12 ash-10 ash-11 ash-13 ash-1"],
    "use": ["use ash-1", "use bay-1", "use ash-12", "use ash-10", "use ash-13"],
    "recall": ["recall ash-1", "recall ash-2", "recall ash-3", "recall ash-4", "recall ash-6", "recall bay-1"],
    "notice": ["notice ash-1 bay", "notice ash-2 bay", "notice ash-3 zed", "notice ash-4 bay", "notice bay-1 cob",
               "notice bay-9 bay", "notice ash-14 bay"],
    "receipt": ["receipt ash-2 2", "receipt cob-1 5"],
    "noted": ["noted cob-1 cob"],
    "pay": ["pay ash-1 bay 10", "pay ash-21 bay 4", "pay bay-1 ash 1", "pay zed-1 zed 1000000000"],
    "paid": ["paid ash-3 30"],
}
SECOND = [
    ["receipt ash-2 2"], ["noted cob-1 cob"], ["pay ash-1 bay 10"], ["paid ash-3 30"], ["use ash-1"], ["recall ash-1"],
    ["notice bay-9 bay"], ["give ash-1 2 bay"], ["got bay-3 bay 5 2 bay"], ["got ash-2 ash 20 3 bay"],
    ["split ash-1 ash-14 5 ash-15 5"], ["join ash-14 ash-1 ash-10"], ["register ash-14 5"], ["got zed-1 bay 9 2 cob"],
]
INVALID = ["", "use", "use ash-01", "USE ash-1", "use ash-1 ", "register ash-14 0", "register ash-14 1000000001",
           "give ash-1 2 Bay", "join ash-14 ash-1", "split ash-1 ash-14 10"]


class BrokenTest(unittest.TestCase):
    def check_broken(self, text, number):
        with self.assertRaises(BrokenJournal, msg=text[-60:]) as caught:
            Office("ash", text)
        self.assertEqual(caught.exception.line, number, text[-60:])
        self.assertIsInstance(caught.exception, HeldError)

    def test_all_twelve_words_are_tried(self):
        self.assertEqual(len(BAD), 12)
        self.assertEqual(set(BAD), set(GOOD))

    def test_lines_that_do_not_fit(self):
        for lines in BAD.values():
            for line in lines:
                self.check_broken(JOURNAL + line + "\n", len(ROWS) + 1)
                self.check_broken(JOURNAL + line + "\nuse ash-1\nuse ash-1\n", len(ROWS) + 1)
                self.check_broken(JOURNAL + "pay ash-99 bay 1\n" + line + "\nuse", len(ROWS) + 2)

    def test_without_its_newline_it_is_no_line(self):
        for lines in BAD.values():
            for line in lines:
                self.assertEqual(Office("ash", JOURNAL + line).journal(), JOURNAL)

    def test_good_lines_near_them(self):
        for lines in GOOD.values():
            for line in lines:
                self.assertEqual(Office("ash", JOURNAL + line + "\n").journal(), JOURNAL + line + "\n")

    def test_the_same_line_a_second_time(self):
        for lines in SECOND:
            text = JOURNAL + "".join(line + "\n" for line in lines)
            Office("ash", text)
            self.check_broken(text + lines[-1] + "\n", len(ROWS) + 2)

    def test_each_line_out_of_its_place(self):
        """Each line of the journal that stands alone, or before what it needs, is told by its number."""
        for at, row in enumerate(ROWS):
            if row.split(" ")[0] in ("give", "use", "split", "recall", "join"):
                self.check_broken(row + "\n", 1)
                self.check_broken("pay bay-1 bay 1\n" + row + "\n", 2)
        self.check_broken("register ash-2 5\n", 1)
        self.check_broken("register ash-1 5\nregister ash-1 5\n", 2)

    def test_the_first_broken_line_is_told(self):
        self.check_broken("register ash-1 5\nuse ash-1\nuse ash-1\nregister ash-9 5\n", 3)
        self.check_broken("use ash-1\nregister ash-1 5\n", 1)

    def test_another_name_makes_other_lines_fit(self):
        with self.assertRaises(BrokenJournal) as caught:
            Office("bay", JOURNAL)
        self.assertEqual(caught.exception.line, 1)
        self.assertEqual(Office("bay", "got ash-1 ash 5 2 ash\n").held(), ["ash-1"])

    def test_an_answer_needs_its_own_giving(self):
        text = "register ash-1 5\ngive ash-1 2 bay\nreceipt ash-1 2\ngot ash-1 ash 5 3 bay\ngive ash-1 4 bay\n"
        for line in ("receipt ash-1 2", "receipt ash-1 3", "receipt ash-1 5"):
            self.check_broken(text + line + "\n", 6)
        Office("ash", text + "receipt ash-1 4\n")
        self.check_broken(text + "receipt ash-1 4\nreceipt ash-1 4\n", 7)

    def test_what_is_made_was_not_known(self):
        """A notice can tell of a thing with the next number, and then nothing can get this number."""
        text = "register ash-1 5\nregister ash-2 6\n"
        for line, number in (("register ash-3 5", 3), ("join ash-3 ash-1 ash-2", 3), ("split ash-1 ash-3 2 ash-4 3", 3),
                             ("split ash-1 ash-3 2 ash-4 3", 4)):
            Office("ash", text + line + "\n")
            self.check_broken(text + f"notice ash-{number} bay\n" + line + "\n", 4)
            Office("ash", text + f"notice ash-{number + 2} bay\n" + line + "\n")

    def test_a_got_behind_a_giving_needs_a_higher_epoch(self):
        text = "got bay-1 bay 5 7 bay\ngive bay-1 8 cob\n"
        for epoch in (2, 6, 7, 8):
            self.check_broken(text + f"got bay-1 bay 5 {epoch} cob\n", 3)
        for epoch in (9, 10, TOP):
            Office("ash", text + f"got bay-1 bay 5 {epoch} cob\n")


class OrderOfErrorsTest(unittest.TestCase):
    NO_NAMES = ["", "Ash", "ash1", "a" * 13, "ash ", " ash", "a-b", "ash-1", "\u00e4sh", "ash\n", "7"]

    def test_a_name_that_is_none(self):
        for name in self.NO_NAMES:
            for journal in ("", JOURNAL, "use ash-1\n", "nonsense\n", "use"):
                with self.assertRaises(InvalidOffice, msg=name):
                    Office(name, journal)
            with self.assertRaises(InvalidOffice):
                Office(name)

    def test_names_at_the_bounds(self):
        for name in ("a", "z", "abcdefghijkl", "receipt"):
            self.assertEqual(Office(name).name, name)
            self.assertEqual(Office(name).create(1), name + "-1")

    def test_an_invalid_line_ahead_of_a_broken_one(self):
        for invalid in INVALID:
            for text, number in ((invalid + "\n", 1), ("use ash-1\n" + invalid + "\n", 2),
                                 (invalid + "\nuse ash-1\n", 1), (JOURNAL + invalid + "\n", len(ROWS) + 1),
                                 (JOURNAL + "use ash-99\n" * 3 + invalid + "\n" + invalid + "\n", len(ROWS) + 4)):
                with self.assertRaises(InvalidLine, msg=text[-40:]) as caught:
                    Office("ash", text)
                self.assertEqual(caught.exception.line, number)

    def test_an_invalid_line_without_its_newline_is_none(self):
        for invalid in INVALID:
            self.assertEqual(Office("ash", JOURNAL + invalid).journal(), JOURNAL)


if __name__ == "__main__":
    unittest.main()
