"""The world: its commands, its net, cuts and `calm` (points 5.1, 5.2 and 5.3), and their errors."""

import unittest

from letterheld.errors import HeldError
from letterheld.net import Net
from letterheld.office import Office
from letterheld.world import World
from tests.leading import journals_of, outcome, view_of

TOP = 1000000000


class WorldTest(unittest.TestCase):
    def check_error(self, world, name, action, *words):
        before = view_of(world)
        with self.assertRaises(HeldError, msg=(action, words)) as caught:
            getattr(world, action)(*words)
        self.assertEqual(caught.exception.__class__.__name__, name, (action, words))
        self.assertEqual(view_of(world), before)

    def led(self, names, *steps):
        world = World(names)
        for word, *words in steps:
            getattr(world, word)(*words)
        return world

    # names and offices

    def test_new(self):
        world = World(["cob", "ash", "bay"])
        self.assertEqual(world.names(), ["ash", "bay", "cob"])
        self.assertIsInstance(world.net, Net)
        self.assertEqual(world.net.letters(), [])
        for name in ("ash", "bay", "cob"):
            self.assertIsInstance(world.office(name), Office)
            self.assertEqual((world.office(name).name, world.office(name).journal()), (name, ""))
        self.assertEqual(World([]).names(), [])
        self.assertEqual(World([]).calm(), 0)

    def test_names_are_a_new_list(self):
        names = ["cob", "ash"]
        world = World(names)
        world.names().clear()
        names.append("zed")
        self.assertEqual(world.names(), ["ash", "cob"])
        self.assertEqual(names, ["cob", "ash", "zed"])
        self.check_error(world, "InvalidOffice", "office", "zed")

    def test_names_that_are_none(self):
        for names in ([""], ["ash", ""], ["Ash"], ["ash", "bay", "ash"], ["ash", "ash"], ["a" * 13], ["ash "], ["ash-1"],
                      ["ash", "b1"], ["ash", "bay", "cob\n"], ["Ash", "Ash"]):
            kept = list(names)
            self.assertEqual(outcome(World, names)[:2], ("error", "InvalidOffice"), names)
            self.assertEqual(names, kept)
        self.assertEqual(World(["a", "a" * 12]).names(), ["a", "a" * 12])

    def test_offices_that_are_none(self):
        world = self.led(["ash", "bay"], ("create", "ash", 5), ("create", "bay", 6), ("give", "ash", "ash-1", "bay"))
        for name in ("zed", "", "Ash", "as", "ashh", "ash-1"):
            self.check_error(world, "InvalidOffice", "office", name)
            self.check_error(world, "InvalidOffice", "create", name, 5)
            self.check_error(world, "InvalidOffice", "create", name, 0)
            self.check_error(world, "InvalidOffice", "split", name, "bay-1", [])
            self.check_error(world, "InvalidOffice", "split", name, "ash-9", [1, 2])
            self.check_error(world, "InvalidOffice", "join", name, [])
            self.check_error(world, "InvalidOffice", "join", name, ["ash-9"])
            self.check_error(world, "InvalidOffice", "give", name, "bay-1", "ash")
            self.check_error(world, "InvalidOffice", "give", name, "ash-9", "ash")
            self.check_error(world, "InvalidOffice", "give", "bay", "bay-1", name)
            self.check_error(world, "InvalidOffice", "give", "bay", "ash-9", name)
            self.check_error(world, "InvalidOffice", "give", name, "ash-9", name)
            self.check_error(world, "InvalidOffice", "use", name, "ash-9")
            self.check_error(world, "InvalidOffice", "recall", name, "ash-9")
            self.check_error(world, "InvalidOffice", "tick", name)
            self.check_error(world, "InvalidOffice", "cut", name, "")
            self.check_error(world, "InvalidOffice", "cut", name, "nonsense\n")

    def test_errors_of_the_offices(self):
        world = self.led(["ash", "bay"], ("create", "ash", 5), ("create", "ash", TOP), ("create", "ash", 7),
                         ("recall", "ash", "ash-3"), ("create", "bay", 6), ("give", "bay", "bay-1", "ash"))
        self.check_error(world, "InvalidQuantity", "create", "ash", 0)
        self.check_error(world, "InvalidQuantity", "create", "ash", TOP + 1)
        self.check_error(world, "InvalidOffice", "give", "ash", "ash-1", "ash")
        self.check_error(world, "InvalidOffice", "give", "ash", "ash-9", "ash")
        for action, words in (("give", ["bay"]), ("use", []), ("split", [[1, 4]])):
            self.check_error(world, "NotHeld", action, "ash", "bay-1", *words)
            self.check_error(world, "Frozen", action, "ash", "ash-3", *words)
        self.check_error(world, "NotHeld", "join", "ash", ["bay-1", "ash-1"])
        self.check_error(world, "InvalidThings", "join", "ash", ["ash-1"])
        self.check_error(world, "InvalidQuantity", "join", "ash", ["ash-1", "ash-2"])
        self.check_error(world, "InvalidQuantity", "split", "ash", "ash-1", [1, 3])
        self.check_error(world, "UnknownThing", "recall", "ash", "bay-1")
        self.check_error(world, "Frozen", "recall", "ash", "ash-3")

    # commands and the net

    def test_what_commands_return(self):
        world = World(["ash", "bay"])
        self.assertEqual(world.create("ash", 40), "ash-1")
        self.assertEqual(world.split("ash", "ash-1", [15, 25]), ["ash-2", "ash-3"])
        self.assertEqual(world.join("ash", ["ash-3", "ash-2"]), "ash-4")
        self.assertEqual(world.create("bay", 5), "bay-1")
        self.assertIsNone(world.give("ash", "ash-4", "bay"))
        self.assertIsNone(world.use("bay", "bay-1"))
        self.assertIsNone(world.recall("ash", "ash-4"))
        self.assertIsNone(world.tick("ash"))
        deed, notice = ("deed", "ash", "bay", "ash-4", "ash", 40, 2), ("notice", "ash", "bay", "ash-4")
        claim = ("claim", "bay", "bay", "bay-1", 5)
        self.assertEqual(world.net.letters(), [deed, claim, notice, deed, notice])
        self.assertEqual(world.office("ash").journal(), (
            "register ash-1 40\nsplit ash-1 ash-2 15 ash-3 25\njoin ash-4 ash-3 ash-2\ngive ash-4 2 bay\nrecall ash-4\n"))
        self.assertEqual(world.office("bay").journal(), "register bay-1 5\nuse bay-1\n")

    def test_deliver(self):
        world = self.led(["ash", "bay"], ("create", "ash", 40), ("give", "ash", "ash-1", "bay"), ("create", "bay", 5),
                         ("use", "bay", "bay-1"))
        deed, claim = ("deed", "ash", "bay", "ash-1", "ash", 40, 2), ("claim", "bay", "bay", "bay-1", 5)
        receipt, paid = ("receipt", "bay", "ash", "ash-1", 2), ("paid", "bay", "bay", "bay-1", 5)
        self.assertEqual(world.net.letters(), [deed, claim])
        self.assertEqual(world.deliver(1), claim)
        self.assertEqual(world.net.letters(), [deed, paid])
        self.assertEqual(world.deliver(0), deed)
        self.assertEqual(world.net.letters(), [paid, receipt])
        self.assertEqual(world.deliver(1), receipt)
        self.assertEqual(world.deliver(0), paid)
        self.assertEqual(world.net.letters(), [])
        self.assertEqual(journals_of(world), {
            "ash": "register ash-1 40\ngive ash-1 2 bay\nreceipt ash-1 2\n",
            "bay": "register bay-1 5\nuse bay-1\npay bay-1 bay 5\ngot ash-1 ash 40 2 ash\npaid bay-1 5\n"})

    def test_places_without_a_letter(self):
        world = World(["ash", "bay"])
        for place in (-1, 0, 1, TOP):
            self.check_error(world, "NoLetter", "deliver", place)
        world = self.led(["ash", "bay"], ("create", "ash", 40), ("give", "ash", "ash-1", "bay"), ("tick", "ash"))
        for place in (-3, -2, -1, 2, 3, TOP):
            self.check_error(world, "NoLetter", "deliver", place)
        world.deliver(1)

    def test_a_letter_to_an_office_that_is_not_here(self):
        """Only somebody outside can put it into the net; it stays there."""
        world = self.led(["ash", "bay"], ("create", "ash", 40), ("give", "ash", "ash-1", "bay"))
        world.net.send(("notice", "ash", "zed", "ash-1"))
        self.check_error(world, "InvalidOffice", "deliver", 1)
        world.deliver(0)
        self.check_error(world, "InvalidOffice", "deliver", 0)

    def test_tick_sends_all_pending_letters_again(self):
        world = self.led(["ash", "bay", "cob"], ("create", "ash", 40), ("create", "ash", 5), ("create", "ash", 6),
                         ("use", "ash", "ash-2"), ("give", "ash", "ash-1", "bay"), ("give", "ash", "ash-3", "cob"),
                         ("recall", "ash", "ash-1"))
        before = world.net.letters()
        world.tick("bay")
        self.assertEqual(world.net.letters(), before)
        for _ in range(2):
            world.tick("ash")
            before = before + world.office("ash").pending()
            self.assertEqual(world.net.letters(), before)
        self.assertEqual(len(before), 12)

    def test_letters_of_a_recall_and_of_a_notice(self):
        world = self.led(
            ["ash", "bay", "cob"], ("create", "ash", 40), ("give", "ash", "ash-1", "bay"), ("calm",),
            ("split", "bay", "ash-1", [10, 30]), ("give", "bay", "bay-2", "cob"), ("give", "bay", "bay-1", "ash"), ("calm",))
        world.recall("ash", "ash-1")
        self.assertEqual(world.net.letters(), [("notice", "ash", "bay", "ash-1")])
        world.deliver(0)
        self.assertEqual(world.net.letters(), [
            ("noted", "bay", "ash", "ash-1"), ("notice", "bay", "ash", "bay-1"), ("notice", "bay", "cob", "bay-2")])

    # cuts

    def test_cut(self):
        world = self.led(["ash", "bay"], ("create", "ash", 40), ("create", "ash", 5), ("give", "ash", "ash-1", "bay"))
        letters = world.net.letters()
        journal = world.office("ash").journal()
        for tail in ("", "use", "use ash-2", "nonsense", "register ash-3 5"):
            self.assertIsNone(world.cut("ash", journal + tail))
            self.assertEqual(world.office("ash").journal(), journal)
            self.assertEqual(world.net.letters(), letters)
        world.cut("ash", journal + "use ash-2\n")
        self.assertEqual(world.office("ash").pending(), [
            ("deed", "ash", "bay", "ash-1", "ash", 40, 2), ("claim", "ash", "ash", "ash-2", 5)])
        self.assertEqual(world.net.letters(), letters)
        self.assertEqual(world.calm(), 1)
        self.assertEqual(world.office("ash").credit(), 5)

    def test_errors_of_cut(self):
        world = self.led(["ash", "bay"], ("create", "ash", 40), ("give", "ash", "ash-1", "bay"))
        journal = world.office("ash").journal()
        for tail, name, line in (("use ash-1\n", "BrokenJournal", 3), ("nonsense\n", "InvalidLine", 3), ("\n", "InvalidLine", 3),
                                 ("use ash-1\nnonsense\n", "InvalidLine", 4), ("pay a-1 a 1\nuse ash-9\n", "BrokenJournal", 4)):
            before = view_of(world)
            self.assertEqual(outcome(world.cut, "ash", journal + tail), ("error", name, line))
            self.assertEqual(view_of(world), before)

    # calm

    def test_calm_without_anything_to_do(self):
        world = self.led(["ash", "bay"], ("create", "ash", 40), ("split", "ash", "ash-1", [1, 39]), ("recall", "ash", "ash-1"))
        before = view_of(world)
        self.assertEqual(world.calm(), 0)
        self.assertEqual(view_of(world), before)

    def test_calm_with_an_answer_that_is_waited_for(self):
        world = self.led(["ash", "bay"], ("create", "ash", 40), ("give", "ash", "ash-1", "bay"))
        world.net.take(0)
        self.assertEqual(world.calm(), 1)
        self.assertEqual(world.office("bay").held(), ["ash-1"])
        self.assertEqual((world.net.letters(), world.office("ash").pending()), ([], []))
        self.assertEqual(world.calm(), 0)

    def test_calm_with_a_letter_under_way(self):
        world = self.led(["ash", "bay"], ("create", "ash", 40), ("give", "ash", "ash-1", "bay"))
        world.net.double(0)
        world.calm()
        world.net.send(("deed", "ash", "bay", "ash-1", "ash", 40, 2))
        self.assertEqual(world.calm(), 1)
        self.assertEqual(world.calm(), 0)

    def test_calm_ticks_in_ascending_order_and_delivers_the_first_letter(self):
        """The order shows in the order in which an office learns of things."""
        steps = [("create", name, 5) for name in ("cob", "ash", "bay")]
        steps += [("give", name, name + "-1", "zed") for name in ("cob", "bay", "ash")]
        world = self.led(["zed", "cob", "bay", "ash"], *steps)
        world.calm()
        self.assertEqual(world.office("zed").known(), ["cob-1", "bay-1", "ash-1"])
        world = self.led(["zed", "cob", "bay", "ash"], *steps)
        for _ in range(3):
            world.net.take(0)
        world.calm()
        self.assertEqual(world.office("zed").known(), ["ash-1", "bay-1", "cob-1"])
        self.assertEqual(world.office("ash").journal(), "register ash-1 5\ngive ash-1 2 zed\nreceipt ash-1 2\n")


if __name__ == "__main__":
    unittest.main()
