"""Letters and their answers (points 4.2 and 4.3), and what stands in the book behind them."""

import unittest

from letterheld.errors import HeldError, InvalidOffice
from letterheld.office import Office
from tests.leading import book_of

TOP = 1000000000


def office_with(name, *rows):
    return Office(name, "".join(row + "\n" for row in rows))


class LettersTest(unittest.TestCase):
    def check(self, office, letter, answers, line=None):
        """A letter is answered so, and writes this line or none."""
        before = office.journal()
        self.assertEqual(office.receive(letter), answers, letter)
        self.assertEqual(office.journal(), before + (line + "\n" if line else ""), letter)

    def check_twice(self, office, letter, answers, line=None):
        """The second time it writes nothing and is answered by the first of the answers at most."""
        self.check(office, letter, answers, line)
        self.check(office, letter, answers[:1])


class DeedTest(LettersTest):
    def deed(self, thing, home, quantity, epoch, sender="bay"):
        return ("deed", sender, "ash", thing, home, quantity, epoch)

    def receipt(self, thing, epoch, to="bay"):
        return [("receipt", "ash", to, thing, epoch)]

    def test_new(self):
        ash = Office("ash")
        self.check_twice(ash, self.deed("bay-1", "bay", 40, 2), self.receipt("bay-1", 2), "got bay-1 bay 40 2 bay")
        self.assertEqual(ash.entry("bay-1"), ("bay-1", "bay", 40, 2, "held", None, False))
        self.check_twice(ash, self.deed("bay-2", "zed", 1, 3), self.receipt("bay-2", 3), "got bay-2 zed 1 3 bay")
        self.check_twice(ash, self.deed("cob-9", "ash", TOP, TOP), self.receipt("cob-9", TOP),
                         f"got cob-9 ash {TOP} {TOP} bay")
        self.assertEqual(ash.known(), ["bay-1", "bay-2", "cob-9"])
        self.assertEqual(ash.pending(), [])

    def test_epoch_one_is_no_giving(self):
        ash = Office("ash")
        self.check(ash, self.deed("bay-1", "bay", 40, 1), self.receipt("bay-1", 1))
        self.check(ash, self.deed("bay-1", "bay", 40, 2), self.receipt("bay-1", 2), "got bay-1 bay 40 2 bay")

    def test_of_the_office_itself(self):
        ash = Office("ash")
        self.check(ash, self.deed("bay-1", "bay", 40, 2, "ash"), self.receipt("bay-1", 2, "ash"))
        ash = office_with("ash", "register ash-1 40", "give ash-1 2 bay")
        self.check(ash, self.deed("ash-1", "ash", 40, 3, "ash"), self.receipt("ash-1", 3, "ash"))

    def test_of_what_this_office_did_not_make(self):
        ash = office_with("ash", "register ash-1 40")
        for thing in ("ash-2", "ash-3", "ash-1000000000"):
            self.check(ash, self.deed(thing, "ash", 40, 2), self.receipt(thing, 2))
        self.assertEqual(ash.known(), ["ash-1"])

    def test_comes_back(self):
        for epoch in (3, 4, 1000, TOP):
            ash = office_with("ash", "register ash-1 40", "give ash-1 2 bay")
            letter = self.deed("ash-1", "ash", 40, epoch)
            self.check_twice(ash, letter, self.receipt("ash-1", epoch), f"got ash-1 ash 40 {epoch} bay")
            self.assertEqual(ash.entry("ash-1"), ("ash-1", "ash", 40, epoch, "held", "bay", False))
            self.assertEqual(ash.pending(), [])

    def test_comes_back_from_another_office(self):
        ash = office_with("ash", "got cob-1 zed 7 5 cob", "give cob-1 6 bay", "receipt cob-1 6")
        self.check_twice(ash, self.deed("cob-1", "zed", 7, 9, "cob"), self.receipt("cob-1", 9, "cob"),
                         "got cob-1 zed 7 9 cob")

    def test_comes_late(self):
        ash = office_with("ash", "got cob-1 zed 7 5 cob", "give cob-1 6 bay")
        for epoch in (1, 2, 4, 5, 6):
            self.check(ash, self.deed("cob-1", "zed", 7, epoch), self.receipt("cob-1", epoch))

    def test_of_another_home_or_quantity(self):
        ash = office_with("ash", "register ash-1 40", "give ash-1 2 bay")
        for home, quantity in (("bay", 40), ("ash", 39), ("ash", 41), ("zed", 1)):
            self.check(ash, self.deed("ash-1", home, quantity, 3), self.receipt("ash-1", 3))
        self.assertEqual(ash.entry("ash-1"), ("ash-1", "ash", 40, 2, "given", "bay", False))

    def test_of_what_is_not_given(self):
        rows = ["got bay-1 bay 40 2 bay", "got bay-2 bay 40 2 bay", "got bay-3 bay 40 2 bay", "got bay-4 bay 40 2 bay",
                "got bay-5 bay 40 2 bay", "use bay-2", "split bay-3 ash-1 20 ash-2 20", "join ash-3 bay-4 bay-5"]
        ash = office_with("ash", *rows)
        for thing in ash.known():
            home, quantity, epoch = ash.entry(thing)[1:4]
            for other in (epoch, epoch + 1, epoch + 2):
                self.check(ash, self.deed(thing, home, quantity, other), self.receipt(thing, other))

    def test_of_what_is_only_called_back(self):
        ash = office_with("ash", "notice bay-1 cob", "notice bay-2 bay")
        self.check_twice(ash, self.deed("bay-1", "zed", 40, 2), self.receipt("bay-1", 2), "got bay-1 zed 40 2 bay")
        self.assertEqual(ash.entry("bay-1"), ("bay-1", "zed", 40, 2, "held", None, True))
        self.assertEqual(ash.known(), ["bay-1", "bay-2"])
        self.assertEqual(ash.held(), ["bay-1"])

    def test_own_number_that_is_only_called_back(self):
        ash = office_with("ash", "register ash-1 40", "notice ash-9 cob")
        self.check(ash, self.deed("ash-9", "ash", 40, 2), self.receipt("ash-9", 2))
        self.assertEqual(ash.entry("ash-9"), ("ash-9", None, 0, 0, "unknown", None, True))

    def test_stays_called_back(self):
        ash = office_with("ash", "register ash-1 40", "give ash-1 2 bay", "recall ash-1")
        self.check(ash, self.deed("ash-1", "ash", 40, 3), self.receipt("ash-1", 3), "got ash-1 ash 40 3 bay")
        self.assertEqual(ash.entry("ash-1"), ("ash-1", "ash", 40, 3, "held", "bay", True))
        self.assertEqual(ash.pending(), [])

    def test_numbers_beyond_the_limits_write_nothing(self):
        ash = Office("ash")
        for quantity, epoch in ((TOP + 1, 2), (40, TOP + 1), (0, 2), (-1, 2)):
            self.check(ash, self.deed("bay-1", "bay", quantity, epoch), self.receipt("bay-1", epoch))


class NoticeTest(LettersTest):
    def notice(self, thing, sender="bay"):
        return ("notice", sender, "ash", thing)

    def noted(self, thing, to="bay"):
        return [("noted", "ash", to, thing)]

    def test_of_unknown_things(self):
        ash = office_with("ash", "register ash-1 40")
        for thing, sender in (("bay-1", "bay"), ("bay-2", "zed"), ("ash-5", "cob")):
            self.check_twice(ash, self.notice(thing, sender), self.noted(thing, sender), f"notice {thing} {sender}")
            self.assertEqual(ash.entry(thing), (thing, None, 0, 0, "unknown", None, True))
        self.assertEqual(ash.known(), ["ash-1", "bay-1", "bay-2", "ash-5"])
        self.assertEqual(ash.held(), ["ash-1"])
        self.assertEqual(ash.pending(), [])

    def test_of_held_used_split_and_joined_things(self):
        rows = ["got bay-1 bay 40 2 bay", "got bay-2 bay 40 2 bay", "got bay-3 bay 40 2 bay", "got bay-4 bay 40 2 bay",
                "got bay-5 bay 40 2 bay", "use bay-2", "split bay-3 ash-1 20 ash-2 20", "join ash-3 bay-4 bay-5"]
        for thing in ("bay-1", "bay-2", "bay-3", "bay-4", "bay-5"):
            ash = office_with("ash", *rows)
            entry = ash.entry(thing)
            self.check_twice(ash, self.notice(thing), self.noted(thing), f"notice {thing} bay")
            self.assertEqual(ash.entry(thing), entry[:6] + (True,))

    def test_of_the_office_itself(self):
        ash = office_with("ash", "register ash-1 40")
        self.check(ash, self.notice("ash-1", "ash"), self.noted("ash-1", "ash"))
        self.check(ash, self.notice("bay-1", "ash"), self.noted("bay-1", "ash"))
        self.assertEqual(ash.entry("ash-1")[6], False)
        self.assertIsNone(ash.entry("bay-1"))

    def test_of_a_given_thing_goes_on(self):
        ash = office_with("ash", "got bay-1 bay 40 2 bay", "give bay-1 3 cob")
        goes_on = [("notice", "ash", "cob", "bay-1")]
        self.check_twice(ash, self.notice("bay-1"), self.noted("bay-1") + goes_on, "notice bay-1 bay")
        deed = ("deed", "ash", "cob", "bay-1", "bay", 40, 3)
        self.assertEqual(ash.pending(), [deed] + goes_on)

    def test_goes_on_for_all_that_was_made_of_it_in_their_order(self):
        ash = office_with(
            "ash", "register ash-1 5", "got bay-1 bay 40 2 bay", "split bay-1 ash-2 10 ash-3 10 ash-4 20",
            "give ash-4 2 cob", "give ash-2 2 zed", "receipt ash-2 2", "give ash-1 2 cob")
        answers = self.noted("bay-1") + [("notice", "ash", "zed", "ash-2"), ("notice", "ash", "cob", "ash-4")]
        self.check_twice(ash, self.notice("bay-1"), answers, "notice bay-1 bay")
        self.assertEqual(ash.pending(), [
            ("deed", "ash", "cob", "ash-1", "ash", 5, 2),
            ("notice", "ash", "zed", "ash-2"),
            ("deed", "ash", "cob", "ash-4", "bay", 20, 2),
            ("notice", "ash", "cob", "ash-4"),
        ])

    def test_of_what_is_called_back_already(self):
        ash = office_with("ash", "got bay-1 bay 40 2 bay", "give bay-1 3 cob", "recall bay-1")
        self.check(ash, self.notice("bay-1"), self.noted("bay-1"))
        self.check(ash, self.notice("bay-1", "zed"), self.noted("bay-1", "zed"))

    def test_a_second_one_from_another_office(self):
        ash = Office("ash")
        self.check(ash, self.notice("cob-1"), self.noted("cob-1"), "notice cob-1 bay")
        self.check(ash, self.notice("cob-1", "zed"), self.noted("cob-1", "zed"))


class ClaimTest(LettersTest):
    def claim(self, thing, quantity, sender="bay"):
        return ("claim", sender, "ash", thing, quantity)

    def paid(self, thing, quantity, to="bay"):
        return [("paid", "ash", to, thing, quantity)]

    def test_new(self):
        ash = office_with("ash", "register ash-1 40", "register ash-2 7", "give ash-1 2 bay")
        self.check_twice(ash, self.claim("ash-1", 40), self.paid("ash-1", 40), "pay ash-1 bay 40")
        self.check_twice(ash, self.claim("zed-3", 1, "zed"), self.paid("zed-3", 1, "zed"), "pay zed-3 zed 1")
        self.assertEqual(ash.payments(), [("ash-1", "bay", 40), ("zed-3", "zed", 1)])
        self.assertEqual(ash.credit(), 0)
        self.assertEqual(ash.known(), ["ash-1", "ash-2"])
        self.assertEqual(ash.entry("ash-1"), ("ash-1", "ash", 40, 2, "given", "bay", False))

    def test_not_paid_to_another_or_with_another_quantity(self):
        ash = office_with("ash", "register ash-1 40", "pay ash-1 bay 40")
        self.check(ash, self.claim("ash-1", 39), [])
        self.check(ash, self.claim("ash-1", 41), [])
        self.check(ash, self.claim("ash-1", 40, "cob"), [])
        self.check(ash, self.claim("ash-1", 40, "ash"), [])
        self.check(ash, self.claim("ash-1", 40), self.paid("ash-1", 40))
        self.assertEqual(ash.payments(), [("ash-1", "bay", 40)])

    def test_of_the_office_itself(self):
        ash = office_with("ash", "register ash-1 40", "use ash-1")
        letter = self.claim("ash-1", 40, "ash")
        self.assertEqual(ash.pending(), [letter])
        self.check_twice(ash, letter, self.paid("ash-1", 40, "ash"), "pay ash-1 ash 40")
        self.assertEqual(ash.pending(), [letter])
        self.check_twice(ash, ("paid", "ash", "ash", "ash-1", 40), [], "paid ash-1 40")
        self.assertEqual((ash.pending(), ash.credit()), ([], 40))

    def test_of_a_called_back_thing(self):
        ash = office_with("ash", "register ash-1 40", "give ash-1 2 bay", "recall ash-1")
        self.check_twice(ash, self.claim("ash-1", 40), self.paid("ash-1", 40), "pay ash-1 bay 40")
        self.assertEqual(ash.entry("ash-1")[4:], ("given", "bay", True))

    def test_order_of_payments(self):
        ash = Office("ash")
        for number in (10, 2, 1, 30):
            ash.receive(self.claim(f"ash-{number}", number))
        self.assertEqual([payment[0] for payment in ash.payments()], ["ash-10", "ash-2", "ash-1", "ash-30"])

    def test_greatest_quantity(self):
        ash = Office("ash")
        self.check_twice(ash, self.claim("ash-1", TOP), self.paid("ash-1", TOP), f"pay ash-1 bay {TOP}")
        self.check(ash, self.claim("ash-2", TOP + 1), [])
        self.check(ash, self.claim("ash-3", 0), [])


class ReceiptTest(LettersTest):
    def receipt(self, thing, epoch, sender="bay"):
        return ("receipt", sender, "ash", thing, epoch)

    def test_new(self):
        ash = office_with("ash", "register ash-1 40", "give ash-1 2 bay")
        self.assertEqual(ash.pending(), [("deed", "ash", "bay", "ash-1", "ash", 40, 2)])
        self.check_twice(ash, self.receipt("ash-1", 2), [], "receipt ash-1 2")
        self.assertEqual(ash.pending(), [])
        self.assertEqual(ash.entry("ash-1"), ("ash-1", "ash", 40, 2, "given", "bay", False))

    def test_of_another_epoch(self):
        ash = office_with("ash", "got bay-1 bay 40 4 bay", "give bay-1 5 bay")
        for epoch in (1, 2, 4, 6, 50):
            self.check(ash, self.receipt("bay-1", epoch), [])
        self.check(ash, self.receipt("bay-1", 5), [], "receipt bay-1 5")

    def test_of_what_is_not_given(self):
        ash = office_with("ash", "register ash-1 40", "register ash-2 40", "use ash-2", "got bay-1 bay 7 2 bay",
                          "notice cob-1 bay")
        for thing in ash.known() + ["ash-3", "zed-1"]:
            for epoch in (1, 2, 3):
                self.check(ash, self.receipt(thing, epoch), [])

    def test_late_receipt_of_what_came_back(self):
        ash = office_with("ash", "register ash-1 40", "give ash-1 2 bay", "got ash-1 ash 40 3 bay")
        self.check(ash, self.receipt("ash-1", 2), [])
        self.check(ash, self.receipt("ash-1", 3), [])
        ash.give("ash-1", "cob")
        self.check(ash, self.receipt("ash-1", 2), [])
        self.check(ash, self.receipt("ash-1", 3), [])
        self.check_twice(ash, self.receipt("ash-1", 4, "cob"), [], "receipt ash-1 4")

    def test_each_giving_has_its_own(self):
        ash = office_with("ash", "register ash-1 40", "give ash-1 2 bay", "receipt ash-1 2", "got ash-1 ash 40 3 bay")
        ash.give("ash-1", "bay")
        self.assertEqual(ash.pending(), [("deed", "ash", "bay", "ash-1", "ash", 40, 4)])
        self.check_twice(ash, self.receipt("ash-1", 4), [], "receipt ash-1 4")

    def test_of_a_called_back_thing(self):
        ash = office_with("ash", "register ash-1 40", "give ash-1 2 bay", "recall ash-1")
        self.check_twice(ash, self.receipt("ash-1", 2), [], "receipt ash-1 2")
        self.assertEqual(ash.pending(), [("notice", "ash", "bay", "ash-1")])


class NotedTest(LettersTest):
    def noted(self, thing, sender="bay"):
        return ("noted", sender, "ash", thing)

    def test_new(self):
        ash = office_with("ash", "register ash-1 40", "give ash-1 2 bay", "recall ash-1")
        deed = ("deed", "ash", "bay", "ash-1", "ash", 40, 2)
        self.assertEqual(ash.pending(), [deed, ("notice", "ash", "bay", "ash-1")])
        self.check(ash, self.noted("ash-1", "cob"), [])
        self.check_twice(ash, self.noted("ash-1"), [], "noted ash-1 bay")
        self.assertEqual(ash.pending(), [deed])
        self.assertEqual(ash.entry("ash-1"), ("ash-1", "ash", 40, 2, "given", "bay", True))

    def test_of_what_is_not_called_back(self):
        ash = office_with("ash", "register ash-1 40", "give ash-1 2 bay")
        self.check(ash, self.noted("ash-1"), [])

    def test_of_what_is_not_given(self):
        ash = office_with("ash", "register ash-1 40", "recall ash-1", "notice bay-1 bay", "got cob-1 cob 7 2 bay",
                          "notice cob-1 bay", "register ash-2 3", "use ash-2", "recall ash-2")
        for thing in ash.known() + ["ash-3", "zed-1"]:
            self.check(ash, self.noted(thing), [])

    def test_late_one_of_what_came_back(self):
        ash = office_with("ash", "register ash-1 40", "give ash-1 2 bay", "recall ash-1", "got ash-1 ash 40 3 bay")
        self.check(ash, self.noted("ash-1"), [])

    def test_of_an_earlier_receiver(self):
        ash = office_with("ash", "register ash-1 40", "give ash-1 2 bay", "got ash-1 ash 40 3 bay", "give ash-1 4 cob",
                          "recall ash-1")
        self.check(ash, self.noted("ash-1", "bay"), [])
        self.check_twice(ash, self.noted("ash-1", "cob"), [], "noted ash-1 cob")


class PaidTest(LettersTest):
    def paid(self, thing, quantity, sender="bay"):
        return ("paid", sender, "ash", thing, quantity)

    def test_new(self):
        ash = office_with("ash", "got bay-1 bay 40 2 bay", "use bay-1", "got bay-2 bay 7 2 bay", "use bay-2")
        claims = [("claim", "ash", "bay", "bay-1", 40), ("claim", "ash", "bay", "bay-2", 7)]
        self.assertEqual(ash.pending(), claims)
        self.check_twice(ash, self.paid("bay-2", 7), [], "paid bay-2 7")
        self.assertEqual((ash.pending(), ash.credit()), (claims[:1], 7))
        self.check_twice(ash, self.paid("bay-1", 40), [], "paid bay-1 40")
        self.assertEqual((ash.pending(), ash.credit()), ([], 47))
        self.assertEqual(ash.entry("bay-1"), ("bay-1", "bay", 40, 2, "used", None, False))
        self.assertEqual(ash.payments(), [])

    def test_of_another_quantity(self):
        ash = office_with("ash", "got bay-1 bay 40 2 bay", "use bay-1")
        for quantity in (1, 39, 41, TOP):
            self.check(ash, self.paid("bay-1", quantity), [])
        self.assertEqual(ash.credit(), 0)

    def test_of_what_is_not_used(self):
        ash = office_with("ash", "register ash-1 40", "register ash-2 40", "give ash-2 2 bay", "got bay-1 bay 40 2 bay",
                          "notice cob-1 bay", "register ash-3 40", "recall ash-3", "register ash-4 40",
                          "split ash-4 ash-5 20 ash-6 20")
        for thing in ash.known() + ["zed-1"]:
            self.check(ash, self.paid(thing, 40), [])

    def test_of_what_was_called_back_behind_its_use(self):
        ash = office_with("ash", "register ash-1 40", "use ash-1", "recall ash-1")
        self.assertEqual(ash.pending(), [("claim", "ash", "ash", "ash-1", 40)])
        self.check_twice(ash, self.paid("ash-1", 40), [], "paid ash-1 40")

    def test_credit_goes_beyond_a_quantity(self):
        ash = office_with("ash", f"register ash-1 {TOP}", f"register ash-2 {TOP}", "use ash-1", "use ash-2")
        for thing in ("ash-1", "ash-2"):
            self.check(ash, self.paid(thing, TOP), [], f"paid {thing} {TOP}")
        self.assertEqual(ash.credit(), 2 * TOP)


class PendingTest(LettersTest):
    def test_in_the_order_in_which_it_learned_of_the_things(self):
        ash = office_with(
            "ash", "notice zed-9 bay", "register ash-1 1", "got cob-2 cob 2 2 cob", "register ash-2 3", "got bay-1 bay 4 5 cob",
            "register ash-3 5", "got zed-9 zed 6 2 zed", "use ash-3", "give bay-1 6 zed", "give ash-2 2 cob", "use cob-2",
            "recall ash-2", "give ash-1 2 bay", "recall bay-1", "receipt bay-1 6")
        self.assertEqual(ash.known(), ["zed-9", "ash-1", "cob-2", "ash-2", "bay-1", "ash-3"])
        self.assertEqual(ash.pending(), [
            ("deed", "ash", "bay", "ash-1", "ash", 1, 2),
            ("claim", "ash", "cob", "cob-2", 2),
            ("deed", "ash", "cob", "ash-2", "ash", 3, 2),
            ("notice", "ash", "cob", "ash-2"),
            ("notice", "ash", "zed", "bay-1"),
            ("claim", "ash", "ash", "ash-3", 5),
        ])

    def test_commands_return_only_what_becomes_pending(self):
        ash = office_with("ash", "register ash-1 1", "register ash-2 2", "register ash-3 3", "register ash-4 4")
        self.assertEqual(ash.give("ash-1", "bay"), [("deed", "ash", "bay", "ash-1", "ash", 1, 2)])
        self.assertEqual(ash.use("ash-2"), [("claim", "ash", "ash", "ash-2", 2)])
        self.assertEqual(ash.recall("ash-3"), [])
        self.assertEqual(ash.give("ash-4", "cob"), [("deed", "ash", "cob", "ash-4", "ash", 4, 2)])
        self.assertEqual(ash.recall("ash-1"), [("notice", "ash", "bay", "ash-1")])
        self.assertEqual(len(ash.pending()), 4)

    def test_one_order_for_all_that_a_recall_brings_about(self):
        ash = office_with(
            "ash", "register ash-1 60", "split ash-1 ash-2 10 ash-3 20 ash-4 30", "join ash-5 ash-4 ash-2",
            "split ash-5 ash-6 15 ash-7 25", "give ash-7 2 bay", "give ash-6 2 cob", "give ash-3 2 bay", "receipt ash-7 2",
            "register ash-8 5", "give ash-8 2 bay")
        self.assertEqual(ash.recall("ash-1"), [
            ("notice", "ash", "bay", "ash-3"), ("notice", "ash", "cob", "ash-6"), ("notice", "ash", "bay", "ash-7")])

    def test_part_that_was_called_back_before(self):
        ash = office_with(
            "ash", "register ash-1 60", "split ash-1 ash-2 10 ash-3 50", "give ash-2 2 bay", "give ash-3 2 cob", "recall ash-2")
        self.assertEqual(ash.recall("ash-1"), [("notice", "ash", "cob", "ash-3")])


class OtherOfficeTest(LettersTest):
    def test_letters_for_another_office(self):
        rows = ["register ash-1 40", "give ash-1 2 bay", "recall ash-1", "register ash-2 7", "use ash-2"]
        for name in ("bay", "as", "ashh", "zed"):
            ash = office_with("ash", *rows)
            for letter in (("deed", "cob", name, "cob-1", "cob", 5, 2), ("receipt", "bay", name, "ash-1", 2),
                           ("notice", "bay", name, "cob-3"), ("noted", "bay", name, "ash-1"),
                           ("claim", "bay", name, "ash-1", 40), ("paid", "ash", name, "ash-2", 7),
                           ("notice", "ash", name, "cob-3")):
                before = book_of(ash)
                with self.assertRaises(InvalidOffice) as caught:
                    ash.receive(letter)
                self.assertIsInstance(caught.exception, HeldError)
                self.assertEqual(book_of(ash), before)


if __name__ == "__main__":
    unittest.main()
