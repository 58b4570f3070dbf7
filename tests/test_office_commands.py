"""The commands of an office: what they write and return, and their errors (points 3.2, 3.3, 3.4, 4.2 and 4.4)."""

import unittest

from letterheld.errors import HeldError
from letterheld.office import Office
from tests.leading import book_of, outcome

TOP = 1000000000

# Things in each state: held here (of two homes), given, used, split, joined, called back in each state, unknown.
ROWS = [
    "register ash-1 10", "register ash-2 20", "register ash-3 30", "register ash-4 40", "register ash-5 50",
    "register ash-6 60", "register ash-7 70", "register ash-8 1000000000", "register ash-9 999999990",
    "give ash-2 2 bay",
    "use ash-3",
    "split ash-4 ash-10 15 ash-11 25",
    "recall ash-5",
    "join ash-12 ash-6 ash-7",
    "got bay-1 bay 5 2 bay",
    "got bay-2 bay 6 2 bay",
    "got cob-1 bay 7 4 cob",
    "give cob-1 5 cob",
    "recall cob-1",
    "notice zed-1 bay",
    "got cob-2 cob 8 3 bay",
    "notice cob-2 cob",
    "register ash-13 9",
    "use ash-13",
    "recall ash-13",
]
JOURNAL = "".join(row + "\n" for row in ROWS)
FREE = ["ash-1", "ash-8", "ash-9", "ash-10", "ash-11", "ash-12", "bay-1", "bay-2"]
FROZEN = ["ash-5", "cob-2"]
NOT_HELD = ["ash-2", "ash-3", "ash-4", "ash-6", "ash-7", "ash-13", "cob-1", "zed-1", "ash-14", "zed-2", "bay-9", "", "ash"]
NO_OFFICES = ["", "Ash", "ash", "bay-1", "a" * 13, "bay ", " bay", "bay1", "40", "b\u00e4y", "bay\n"]
NO_QUANTITIES = [0, -1, -40, -TOP, TOP + 1, 2 * TOP]
NO_SIZES = [[], [10], [5, 4], [5, 6], [10, 0], [0, 10], [11, -1], [5, 5, 0], [10, 1], [-5, 15], [TOP + 1, 9 - TOP]]


class CommandsTest(unittest.TestCase):
    def setUp(self):
        self.office = Office("ash", JOURNAL)

    def check_error(self, name, action, *words):
        before = book_of(self.office)
        kept = repr(words)
        with self.assertRaises(HeldError, msg=(action, words)) as caught:
            getattr(self.office, action)(*words)
        self.assertEqual(caught.exception.__class__.__name__, name, (action, words))
        self.assertEqual(book_of(self.office), before)
        self.assertEqual(repr(words), kept)

    def check_line(self, line, result, action, *words):
        """The command returns this and writes this one line."""
        before = self.office.journal()
        kept = repr(words)
        self.assertEqual(getattr(self.office, action)(*words), result, (action, words))
        self.assertEqual(self.office.journal(), before + line + "\n")
        self.assertEqual(repr(words), kept)

    def test_things_stand_as_told(self):
        self.assertEqual([thing for thing in self.office.held() if thing not in FROZEN], FREE)
        for thing in FROZEN:
            self.assertEqual(self.office.entry(thing)[4:], ("held", None, True))

    # create

    def test_create(self):
        for number, quantity in enumerate([1, 2, 40, 999999999, TOP], start=14):
            thing = f"ash-{number}"
            self.check_line(f"register {thing} {quantity}", thing, "create", quantity)
            self.assertEqual(self.office.entry(thing), (thing, "ash", quantity, 1, "held", None, False))
        for quantity in NO_QUANTITIES + [True, False]:
            self.check_error("InvalidQuantity", "create", quantity)
        self.check_line("register ash-19 3", "ash-19", "create", 3)

    def test_numbers_begin_with_one(self):
        office = Office("zed")
        self.assertEqual([office.create(quantity) for quantity in (5, 5, TOP)], ["zed-1", "zed-2", "zed-3"])
        self.assertEqual(office.journal(), "register zed-1 5\nregister zed-2 5\nregister zed-3 1000000000\n")

    # give

    def test_give(self):
        deed = ("deed", "ash", "bay", "ash-1", "ash", 10, 2)
        self.check_line("give ash-1 2 bay", [deed], "give", "ash-1", "bay")
        self.assertEqual(self.office.entry("ash-1"), ("ash-1", "ash", 10, 2, "given", "bay", False))
        self.check_error("NotHeld", "give", "ash-1", "bay")
        deed = ("deed", "ash", "zed", "bay-1", "bay", 5, 3)
        self.check_line("give bay-1 3 zed", [deed], "give", "bay-1", "zed")
        self.assertEqual(self.office.entry("bay-1"), ("bay-1", "bay", 5, 3, "given", "zed", False))

    def test_give_to_its_home_and_to_long_names(self):
        deed = ("deed", "ash", "bay", "bay-2", "bay", 6, 3)
        self.check_line("give bay-2 3 bay", [deed], "give", "bay-2", "bay")
        long = "abcdefghijkl"
        deed = ("deed", "ash", long, "ash-8", "ash", TOP, 2)
        self.check_line("give ash-8 2 " + long, [deed], "give", "ash-8", long)

    def test_give_and_get_back_again_and_again(self):
        office = Office("ash", "register ash-1 10\n")
        for epoch in range(2, 20, 2):
            self.assertEqual(office.give("ash-1", "bay"), [("deed", "ash", "bay", "ash-1", "ash", 10, epoch)])
            office.receive(("deed", "bay", "ash", "ash-1", "ash", 10, epoch + 1))
            self.assertEqual(office.entry("ash-1"), ("ash-1", "ash", 10, epoch + 1, "held", "bay", False))

    def test_errors_of_give_in_their_order(self):
        for thing in FREE + FROZEN + NOT_HELD:
            for receiver in NO_OFFICES:
                self.check_error("InvalidOffice", "give", thing, receiver)
        for receiver in ("bay", "zed", "unheardof", "abcdefghijkl"):
            for thing in NOT_HELD:
                self.check_error("NotHeld", "give", thing, receiver)
            for thing in FROZEN:
                self.check_error("Frozen", "give", thing, receiver)

    # use

    def test_use(self):
        self.check_line("use ash-1", [("claim", "ash", "ash", "ash-1", 10)], "use", "ash-1")
        self.assertEqual(self.office.entry("ash-1"), ("ash-1", "ash", 10, 1, "used", None, False))
        self.check_line("use bay-1", [("claim", "ash", "bay", "bay-1", 5)], "use", "bay-1")
        self.assertEqual(self.office.entry("bay-1"), ("bay-1", "bay", 5, 2, "used", None, False))
        self.check_error("NotHeld", "use", "ash-1")

    def test_errors_of_use(self):
        for thing in NOT_HELD:
            self.check_error("NotHeld", "use", thing)
        for thing in FROZEN:
            self.check_error("Frozen", "use", thing)

    # recall

    def test_recall(self):
        for thing in FREE:
            entry = self.office.entry(thing)
            self.check_line("recall " + thing, [], "recall", thing)
            self.assertEqual(self.office.entry(thing), entry[:6] + (True,))
            self.check_error("Frozen", "recall", thing)

    def test_recall_of_what_is_held_no_more(self):
        self.check_line("recall ash-2", [("notice", "ash", "bay", "ash-2")], "recall", "ash-2")
        for thing in ("ash-3", "ash-4", "ash-6"):
            entry = self.office.entry(thing)
            self.check_line("recall " + thing, [], "recall", thing)
            self.assertEqual(self.office.entry(thing), entry[:6] + (True,))

    def test_errors_of_recall(self):
        for thing in ("ash-5", "cob-1", "cob-2", "ash-13"):
            self.check_error("Frozen", "recall", thing)
        for thing in ("zed-1", "ash-14", "zed-2", "bay-9", "", "ash"):
            self.check_error("UnknownThing", "recall", thing)

    # split

    def test_split(self):
        self.check_line("split ash-1 ash-14 3 ash-15 7", ["ash-14", "ash-15"], "split", "ash-1", [3, 7])
        self.assertEqual(self.office.entry("ash-1"), ("ash-1", "ash", 10, 1, "split", None, False))
        self.assertEqual(self.office.entry("ash-14"), ("ash-14", "ash", 3, 1, "held", None, False))
        self.assertEqual(self.office.entry("ash-15"), ("ash-15", "ash", 7, 1, "held", None, False))
        self.check_error("NotHeld", "split", "ash-1", [3, 7])

    def test_split_of_another_home(self):
        parts = ["ash-14", "ash-15", "ash-16", "ash-17"]
        self.check_line("split bay-1 ash-14 1 ash-15 2 ash-16 1 ash-17 1", parts, "split", "bay-1", [1, 2, 1, 1])
        for thing, quantity in zip(parts, [1, 2, 1, 1]):
            self.assertEqual(self.office.entry(thing), (thing, "bay", quantity, 1, "held", None, False))
        self.assertEqual(self.office.entry("bay-1"), ("bay-1", "bay", 5, 2, "split", None, False))
        self.assertEqual(self.office.known()[-4:], parts)
        self.assertEqual(self.office.held()[-4:], parts)

    def test_split_at_the_bounds(self):
        line = "split ash-8 ash-14 1 ash-15 999999999"
        self.check_line(line, ["ash-14", "ash-15"], "split", "ash-8", [1, 999999999])
        ones = [1] * 10
        parts = [f"ash-{number}" for number in range(16, 26)]
        line = "split ash-1 " + " ".join(f"{part} 1" for part in parts)
        self.check_line(line, parts, "split", "ash-1", ones)
        self.assertEqual(ones, [1] * 10)

    def test_split_of_parts(self):
        office = Office("zed")
        office.create(8)
        self.assertEqual(office.split("zed-1", [4, 4]), ["zed-2", "zed-3"])
        self.assertEqual(office.split("zed-3", [1, 3]), ["zed-4", "zed-5"])
        self.assertEqual(office.create(2), "zed-6")
        self.assertEqual(office.known(), [f"zed-{number}" for number in range(1, 7)])
        self.assertEqual(office.held(), ["zed-2", "zed-4", "zed-5", "zed-6"])

    def test_errors_of_split_in_their_order(self):
        for sizes in NO_SIZES + [[3, 7]]:
            for thing in NOT_HELD:
                self.check_error("NotHeld", "split", thing, sizes)
            for thing in FROZEN:
                self.check_error("Frozen", "split", thing, sizes)
        for sizes in NO_SIZES + [[True, 9], [False, 10]]:
            self.check_error("InvalidQuantity", "split", "ash-1", sizes)
        for sizes in ([TOP, 0], [TOP], [0, TOP], [TOP + 1, -1], [TOP // 2, TOP // 2 - 1], [TOP // 2, TOP // 2 + 1]):
            self.check_error("InvalidQuantity", "split", "ash-8", sizes)

    # join

    def test_join(self):
        self.check_line("join ash-14 ash-10 ash-1", "ash-14", "join", ["ash-10", "ash-1"])
        self.assertEqual(self.office.entry("ash-14"), ("ash-14", "ash", 25, 1, "held", None, False))
        for thing in ("ash-1", "ash-10"):
            self.assertEqual(self.office.entry(thing)[4:], ("joined", None, False))
        self.check_error("NotHeld", "join", ["ash-1", "ash-11"])

    def test_join_of_another_home(self):
        self.check_line("join ash-14 bay-2 bay-1", "ash-14", "join", ["bay-2", "bay-1"])
        self.assertEqual(self.office.entry("ash-14"), ("ash-14", "bay", 11, 1, "held", None, False))
        self.assertEqual(self.office.entry("bay-1"), ("bay-1", "bay", 5, 2, "joined", None, False))
        self.check_line("register ash-15 3", "ash-15", "create", 3)

    def test_join_at_the_bound(self):
        things = ["ash-9", "ash-1"]
        self.check_line("join ash-14 ash-9 ash-1", "ash-14", "join", things)
        self.assertEqual(self.office.entry("ash-14")[2], TOP)
        self.assertEqual(things, ["ash-9", "ash-1"])

    def test_join_of_many(self):
        things = ["ash-12", "ash-11", "ash-10", "ash-1"]
        self.check_line("join ash-14 ash-12 ash-11 ash-10 ash-1", "ash-14", "join", things)
        self.assertEqual(self.office.entry("ash-14")[2], 130 + 25 + 15 + 10)

    def test_errors_of_join_things_one_by_one(self):
        for wrong, name in [(thing, "NotHeld") for thing in NOT_HELD] + [(thing, "Frozen") for thing in FROZEN]:
            for things in ([wrong], [wrong, wrong], [wrong, "ash-1"], ["ash-1", wrong], ["ash-1", "ash-1", wrong],
                           ["ash-1", "bay-1", wrong], ["ash-8", "ash-9", wrong], ["ash-8", "bay-1", wrong, "ash-8"]):
                self.check_error(name, "join", things)

    def test_errors_of_join_the_first_thing_tells(self):
        self.check_error("NotHeld", "join", ["ash-2", "ash-5"])
        self.check_error("Frozen", "join", ["ash-5", "ash-2"])
        self.check_error("Frozen", "join", ["ash-1", "cob-2", "ash-1", "zed-1"])
        self.check_error("NotHeld", "join", ["ash-1", "zed-1", "cob-2"])

    def test_errors_of_join_behind_them(self):
        for things in ([], ["ash-1"], ["ash-1", "ash-1"], ["ash-1", "ash-10", "ash-1"], ["ash-1", "bay-1"],
                       ["bay-1", "bay-2", "ash-1"], ["ash-8", "ash-8"], ["ash-8", "ash-9", "bay-1"],
                       ["ash-8", "ash-9", "ash-8"], ["ash-8"]):
            self.check_error("InvalidThings", "join", things)
        for things in (["ash-8", "ash-9"], ["ash-8", "ash-1"], ["ash-9", "ash-11"], ["ash-9", "ash-1", "ash-10"]):
            self.check_error("InvalidQuantity", "join", things)

    def test_a_sum_one_above_the_bound(self):
        office = Office("ash", "register ash-1 1000000000\nregister ash-2 1\nregister ash-3 999999999\n")
        self.assertEqual(outcome(office.join, ["ash-1", "ash-2"])[1], "InvalidQuantity")
        self.assertEqual(outcome(office.join, ["ash-2", "ash-3", "ash-1"])[1], "InvalidQuantity")
        self.assertEqual(office.join(["ash-2", "ash-3"]), "ash-4")
        self.assertEqual(outcome(office.join, ["ash-4", "ash-1"])[1], "InvalidQuantity")

    # the rest

    def test_returned_lists_are_new(self):
        for action in ("known", "held", "payments", "pending"):
            expected = getattr(self.office, action)()
            getattr(self.office, action)().append("more")
            getattr(self.office, action)().clear()
            self.assertEqual(getattr(self.office, action)(), expected)
        before = self.office.pending()
        self.office.give("ash-1", "bay").clear()
        self.assertEqual(len(self.office.pending()), len(before) + 1)
        self.office.split("ash-11", [5, 20]).clear()
        self.assertEqual(self.office.known()[-2:], ["ash-14", "ash-15"])

    def test_entry(self):
        self.assertIsNone(self.office.entry("ash-14"))
        self.assertIsNone(self.office.entry("bay-3"))
        self.assertEqual(self.office.entry("zed-1"), ("zed-1", None, 0, 0, "unknown", None, True))
        self.assertEqual(self.office.entry("cob-1"), ("cob-1", "bay", 7, 5, "given", "cob", True))
        self.assertIs(self.office.entry("zed-1")[6], True)
        self.assertIs(self.office.entry("ash-1")[6], False)
        self.assertIs(self.office.entry("ash-1").__class__, tuple)

    def test_offices_are_apart(self):
        first, second = Office("ash"), Office("ash")
        first.create(5)
        self.assertEqual(second.known(), [])
        self.assertEqual(second.journal(), "")
        self.assertEqual(first.name, "ash")

    def test_a_new_office_is_empty(self):
        for office in (Office("ash"), Office("ash", ""), Office("ash", "use")):
            self.assertEqual(book_of(office), ("", [], [], [], [], [], 0))


if __name__ == "__main__":
    unittest.main()
