"""The judge: the faults of journals, whoever wrote them (points 6.7 and 6.8)."""

import random
import unittest

from letterheld import audit
from tests import leading, plain_audit, spoiling
from tests.leading import NAMES, journals_of

ASH = [
    "register ash-1 40",        # 1
    "give ash-1 2 bay",         # 2
    "receipt ash-1 2",          # 3
    "register ash-2 7",         # 4
    "give ash-2 2 bay",         # 5
    "receipt ash-2 2",          # 6
    "recall ash-2",             # 7
    "noted ash-2 bay",          # 8
    "pay ash-1 bay 40",         # 9
    "register ash-3 3",         # 10
    "use ash-3",                # 11
    "pay ash-3 ash 3",          # 12
    "paid ash-3 3",             # 13
]
BAY = [
    "got ash-1 ash 40 2 ash",   # 1
    "got ash-2 ash 7 2 ash",    # 2
    "notice ash-2 ash",         # 3
    "use ash-1",                # 4
    "paid ash-1 40",            # 5
]


def text_of(lines):
    return "".join(line + "\n" for line in lines)


class KindsTest(unittest.TestCase):
    def check(self, ash, bay, expected, **others):
        journals = {"bay": text_of(bay), "ash": text_of(ash)}
        journals.update({name: text_of(lines) for name, lines in others.items()})
        kept = dict(journals)
        self.assertEqual(audit.faults(journals), expected)
        self.assertEqual(list(journals.items()), list(kept.items()))
        # A last line without its newline does not count.
        self.assertEqual(audit.faults({name: journals[name] + "use ash-9" for name in journals}), expected)

    def with_line(self, lines, number, line):
        return lines[:number - 1] + [line] + lines[number:]

    def without(self, lines, *numbers):
        return [line for number, line in enumerate(lines, start=1) if number not in numbers]

    def test_none(self):
        self.check(ASH, BAY, [])
        self.check([], [], [])

    # book

    def test_lines_that_do_not_fit(self):
        self.check(ASH + ["use ash-1"], BAY, [("ash", 14, "book")])
        self.check(["use ash-1"] + ASH, BAY + ["got ash-1 ash 40 2 ash"], [("ash", 1, "book"), ("bay", 6, "book")])
        self.check(ASH[:1] + ["register ash-3 40"] + ASH[1:], BAY, [("ash", 2, "book")])

    def test_passed_over_for_all_that_follows(self):
        """A second making is passed over, and the number behind it is free; what needs it does not fit either."""
        self.check(
            ["register ash-2 5", "give ash-2 2 bay", "register ash-1 5", "register ash-2 6"], [],
            [("ash", 1, "book"), ("ash", 2, "book")])
        self.check(
            ["register ash-1 5", "split ash-1 ash-2 1 ash-3 5", "use ash-2", "use ash-1", "register ash-2 9", "use ash-2"], [],
            [("ash", 2, "book"), ("ash", 3, "book")])

    def test_passed_over_for_the_lines_of_others(self):
        """The giving to cob does not fit, so that the deed of cob has nothing behind it."""
        self.check(
            ["register ash-1 40", "give ash-1 2 bay", "give ash-1 3 cob"], [], [("ash", 3, "book"), ("cob", 1, "deed")],
            cob=["got ash-1 ash 40 3 ash"])
        self.check(
            ["register ash-1 40", "give ash-1 2 bay", "receipt ash-1 2"], ["got ash-1 ash 40 2 bay"],
            [("ash", 3, "receipt"), ("bay", 1, "book")])
        self.check(
            ["register ash-1 40", "give ash-1 2 bay", "recall ash-1", "noted ash-1 bay"],
            ["notice ash-1 bay"], [("ash", 4, "noted"), ("bay", 1, "book")])
        self.check(
            ["register ash-1 40", "give ash-1 2 bay", "pay ash-1 bay 40"], ["use ash-1", "paid ash-1 40"],
            [("ash", 3, "pay"), ("bay", 1, "book"), ("bay", 2, "book")])
        self.check(
            ["register ash-1 40", "give ash-1 2 bay", "pay ash-1 cob 1", "pay ash-1 bay 40"],
            ["got ash-1 ash 40 2 ash", "use ash-1", "paid ash-1 40"],
            [("ash", 3, "pay"), ("ash", 4, "book"), ("bay", 3, "paid")])

    # deed

    def test_deed(self):
        for line, why in (("register ash-1 41", "quantity"), ("give ash-1 2 cob", "receiver"), ("give ash-1 3 bay", "epoch")):
            number = 1 if line.startswith("register") else 2
            faults = audit.faults({"ash": text_of(self.with_line(ASH, number, line)), "bay": text_of(BAY)})
            self.assertIn(("bay", 1, "deed"), faults, why)
        self.check(ASH, self.with_line(BAY, 1, "got ash-1 bay 40 2 ash"),
                   [("ash", 9, "pay"), ("bay", 1, "deed"), ("bay", 5, "paid")])
        self.check(ASH, self.with_line(BAY, 2, "got ash-2 ash 8 2 ash"), [("bay", 2, "deed")])
        self.check(ASH, self.with_line(BAY, 2, "got ash-2 ash 7 3 ash"), [("ash", 6, "receipt"), ("bay", 2, "deed")])
        self.check(ASH, self.with_line(BAY, 2, "got ash-2 ash 7 2 cob"), [("ash", 6, "receipt"), ("bay", 2, "deed")])
        self.check(ASH, BAY, [("cob", 1, "deed")], cob=["got ash-1 ash 40 2 ash"])
        self.check(ASH, BAY, [("cob", 1, "deed")], cob=["got bay-1 bay 40 2 zed"])

    def test_deed_of_a_thing_that_stands_otherwise_there(self):
        """The home and the quantity are those of the giver's book, not of the maker's name."""
        self.check(
            ["register ash-1 40", "give ash-1 2 bay"],
            ["got ash-1 ash 40 2 ash", "split ash-1 bay-1 10 bay-2 30", "give bay-1 2 cob", "give bay-2 2 cob"],
            [("cob", 2, "deed")],
            cob=["got bay-1 ash 10 2 bay", "got bay-2 bay 30 2 bay"])

    def test_deed_may_stand_in_any_order_of_the_journals(self):
        """The judge asks only whether the giving stands there, and not when it was written."""
        self.check(
            ["got bay-1 bay 5 2 bay", "give bay-1 3 bay"], ["register bay-1 5", "give bay-1 2 ash", "got bay-1 bay 5 3 ash"], [])

    # receipt

    def test_receipt(self):
        self.check(ASH, self.without(BAY, 2), [("ash", 6, "receipt")])
        self.check(ASH[:3], BAY[:1], [])
        self.check(ASH[:3], [], [("ash", 3, "receipt")])
        self.check(ASH[:2], [], [])

    def test_receipt_asks_for_the_office_and_the_epoch(self):
        ash = ["register ash-1 40", "give ash-1 2 bay", "receipt ash-1 2"]
        self.check(ash, ["got ash-1 ash 40 2 cob"], [("ash", 3, "receipt"), ("bay", 1, "deed")])
        self.check(ash, ["got ash-1 ash 40 4 ash"], [("ash", 3, "receipt"), ("bay", 1, "deed")])
        self.check(ash, [], [("ash", 3, "receipt"), ("cob", 1, "deed")], cob=["got ash-1 ash 40 2 ash"])

    def test_receipt_does_not_ask_for_home_and_quantity(self):
        ash = ["register ash-1 40", "give ash-1 2 bay", "receipt ash-1 2"]
        self.check(ash, ["got ash-1 zed 41 2 ash"], [("bay", 1, "deed")])

    def test_receipt_of_an_earlier_giving(self):
        ash = ["register ash-1 40", "give ash-1 2 bay", "receipt ash-1 2", "got ash-1 ash 40 3 bay", "give ash-1 4 cob",
               "receipt ash-1 4"]
        bay = ["got ash-1 ash 40 2 ash", "give ash-1 3 ash"]
        self.check(ash, bay, [], cob=["got ash-1 ash 40 4 ash"])
        self.check(ash, bay, [("ash", 6, "receipt")], cob=[])
        self.check(ash, [], [("ash", 3, "receipt"), ("ash", 4, "deed")], cob=["got ash-1 ash 40 4 ash"])

    # notice and noted

    def test_notice(self):
        self.check(self.without(ASH, 7, 8), BAY, [("bay", 3, "notice")])
        self.check(ASH, self.with_line(BAY, 3, "notice ash-2 cob"), [("bay", 3, "notice")])
        self.check(ASH, self.with_line(BAY, 3, "notice ash-2 cob"), [], cob=["notice ash-2 ash"])
        self.check(ASH, BAY + ["notice zed-1 ash"], [("bay", 6, "notice")])

    def test_noted(self):
        self.check(ASH, self.without(BAY, 3), [("ash", 8, "noted")])
        self.check(ASH, self.with_line(BAY, 3, "recall ash-2"), [])
        self.check(ASH, self.with_line(BAY, 3, "notice ash-1 ash"), [
            ("ash", 8, "noted"), ("ash", 9, "pay"), ("bay", 3, "notice"), ("bay", 4, "book"), ("bay", 5, "book")])

    def test_notices_in_a_ring(self):
        """Each knows it from the other: the judge asks only whether the other one's book has it."""
        self.check(["notice zed-1 bay"], ["notice zed-1 ash"], [])

    def test_call_backs_by_descent_count(self):
        """The book of the other office has the part called back, though no line names it."""
        ash = ["register ash-1 40", "split ash-1 ash-2 15 ash-3 25", "give ash-2 2 bay", "recall ash-1"]
        self.check(ash, ["notice ash-2 ash"], [])
        self.check(ash[:3], ["notice ash-2 ash"], [("bay", 1, "notice")])
        self.check(ash, ["notice ash-3 ash", "notice ash-1 ash"], [])

    def test_with_all_its_lines(self):
        """The other office may have written it later, or changed the thing since."""
        self.check(["register ash-1 40", "give ash-1 2 bay", "recall ash-1", "got ash-1 ash 40 3 bay"],
                   ["got ash-1 ash 40 2 ash", "give ash-1 3 ash", "notice ash-1 ash"], [])

    # pay

    def test_pay(self):
        self.check(ASH, self.without(BAY, 4, 5), [("ash", 9, "pay")])
        self.check(ASH, self.without(BAY, 5), [])
        self.check(self.with_line(ASH, 9, "pay ash-1 cob 40"), BAY, [("ash", 9, "pay"), ("bay", 5, "paid")])
        self.check(self.with_line(ASH, 9, "pay ash-1 bay 39"), BAY, [("ash", 9, "pay"), ("bay", 5, "paid")])
        self.check(self.with_line(ASH, 9, "pay ash-1 ash 40"), BAY, [("ash", 9, "pay"), ("bay", 5, "paid")])
        self.check(self.with_line(ASH, 9, "pay ash-2 bay 7"), BAY, [("ash", 9, "pay"), ("bay", 5, "paid")])
        self.check(ASH, BAY, [("cob", 1, "pay")], cob=["pay ash-1 bay 40"])

    def test_pay_to_the_office_itself(self):
        self.check(self.without(ASH, 11, 13), BAY, [("ash", 11, "pay")])
        self.check(self.with_line(ASH, 12, "pay ash-3 ash 4"), BAY, [("ash", 12, "pay"), ("ash", 13, "paid")])

    # paid

    def test_paid(self):
        self.check(self.without(ASH, 9), BAY, [("bay", 5, "paid")])
        self.check(self.without(ASH, 12), BAY, [("ash", 12, "paid")])

    def test_paid_by_another_office_than_the_home(self):
        self.check(self.without(ASH, 9), BAY, [("bay", 5, "paid"), ("cob", 1, "pay")], cob=["pay ash-1 bay 40"])

    # offices without a journal

    def test_a_journal_left_out(self):
        self.assertEqual(audit.faults({"ash": text_of(ASH)}), [
            ("ash", 3, "receipt"), ("ash", 6, "receipt"), ("ash", 8, "noted"), ("ash", 9, "pay")])
        self.assertEqual(audit.faults({"bay": text_of(BAY)}), [
            ("bay", 1, "deed"), ("bay", 2, "deed"), ("bay", 3, "notice"), ("bay", 5, "paid")])

    def test_order(self):
        lines = text_of(["use ash-1"] * 11)
        expected = [(name, number, "book") for name in ("ash", "bay", "cob") for number in range(1, 12)]
        self.assertEqual(audit.faults({"cob": lines, "ash": lines, "bay": lines}), expected)

    def test_faults_of_two_kinds_in_the_order_of_the_lines(self):
        self.check(["register ash-1 40", "use ash-2", "give ash-1 2 bay", "receipt ash-1 2", "use ash-1", "notice bay-1 bay"], [],
                   [("ash", 2, "book"), ("ash", 4, "receipt"), ("ash", 5, "book"), ("ash", 6, "notice")])


class SpoiltTest(unittest.TestCase):
    def check_faultless(self, journals):
        """What point 6.8 promises of all journals without a fault."""
        lines = [(name, row) for name, rows in plain_audit.all_rows(journals).items() for row in rows]
        got = [(row[1], row[4]) for _, row in lines if row[0] == "got"]
        used = {row[1]: name for name, row in lines if row[0] == "use"}
        paid = [row[1] for _, row in lines if row[0] == "pay"]
        self.assertEqual(len(set(got)), len(got))
        self.assertEqual(len(used), len([row for _, row in lines if row[0] == "use"]))
        self.assertEqual(len(set(paid)), len(paid))
        homes = {claim[0]: claim[1:3] for claim in audit.claims(journals)}
        for name, row in lines:
            if row[0] == "pay":
                self.assertEqual(homes[row[1]], (row[2], name))
        registered, ended, left = audit.totals(journals)
        self.assertEqual(registered, ended + left)

    def test_changed_journals(self):
        found = {}
        clean = 0
        for seed in range(300):
            rng = random.Random(seed)
            journals = journals_of(leading.world_after(rng, NAMES[:1 + seed % 4], 60))
            for many in (1, 1, 1, 1, 1, 1, 2, 2, 4, 7):
                spoilt = spoiling.spoil(rng, journals, many)
                kept = dict(spoilt)
                faults = audit.faults(spoilt)
                self.assertEqual(faults, plain_audit.faults(spoilt), spoilt)
                self.assertEqual(list(spoilt.items()), list(kept.items()))
                for _, _, fault in faults:
                    found[fault] = found.get(fault, 0) + 1
                if not faults:
                    clean += 1
                    self.check_faultless(spoilt)
        self.assertEqual(sorted(found), ["book", "deed", "noted", "notice", "paid", "pay", "receipt"])
        self.assertGreater(min(found.values()), 20, found)
        self.assertGreater(clean, 100)


if __name__ == "__main__":
    unittest.main()
