"""Call-backs: with all that was made of a thing, by notices, and ahead of the thing (points 3.4, 4.2 and 5.5)."""

import random
import unittest

from letterheld.errors import Frozen
from letterheld.office import Office
from letterheld.world import World


def recalled(office):
    return [thing for thing in office.known() if office.entry(thing)[6]]


def family():
    """A thing that was split, joined, and split again, beside others that have nothing to do with it."""
    ash = Office("ash")
    for quantity in (60, 7, 9):
        ash.create(quantity)
    ash.split("ash-1", [10, 20, 30])
    ash.join(["ash-6", "ash-2"])
    ash.split("ash-7", [17, 20])
    ash.split("ash-9", [1, 19])
    ash.join(["ash-11", "ash-4"])
    return ash


class OwnRecallTest(unittest.TestCase):
    def check(self, thing, expected):
        ash = family()
        ash.recall(thing)
        self.assertEqual(recalled(ash), expected)
        again = Office("ash", ash.journal())
        self.assertEqual(recalled(again), expected)
        for other in ash.known():
            self.assertEqual(ash.entry(other)[:6], family().entry(other)[:6])

    def test_all_that_was_made_of_a_thing(self):
        self.check("ash-1", ["ash-1", "ash-4", "ash-5", "ash-6", "ash-7", "ash-8", "ash-9", "ash-10", "ash-11", "ash-12"])
        self.check("ash-2", ["ash-2", "ash-7", "ash-8", "ash-9", "ash-10", "ash-11", "ash-12"])
        self.check("ash-3", ["ash-3"])
        self.check("ash-4", ["ash-4", "ash-12"])
        self.check("ash-5", ["ash-5"])
        self.check("ash-6", ["ash-6", "ash-7", "ash-8", "ash-9", "ash-10", "ash-11", "ash-12"])
        self.check("ash-9", ["ash-9", "ash-10", "ash-11", "ash-12"])
        self.check("ash-11", ["ash-11", "ash-12"])
        self.check("ash-12", ["ash-12"])

    def test_what_it_came_of_is_not_called_back(self):
        ash = family()
        ash.recall("ash-9")
        for thing in ("ash-1", "ash-2", "ash-7", "ash-8"):
            self.assertIs(ash.entry(thing)[6], False)
        self.assertEqual(ash.recall("ash-7"), [])
        self.assertEqual(recalled(ash), ["ash-7", "ash-8", "ash-9", "ash-10", "ash-11", "ash-12"])
        ash.recall("ash-1")
        self.assertRaises(Frozen, ash.recall, "ash-4")

    def test_a_long_chain(self):
        ash = Office("ash")
        ash.create(3000)
        thing = "ash-1"
        for size in range(2999, 0, -1):
            thing = ash.split(thing, [1, size])[1]
        self.assertEqual(ash.recall("ash-1"), [])
        self.assertEqual(recalled(ash), ash.known())

    def test_many_ways_to_one_thing(self):
        ash = Office("ash")
        thing = ash.create(1000)
        for _ in range(60):
            thing = ash.join(ash.split(thing, [500, 500]))
        ash.give(thing, "bay")
        self.assertEqual(ash.recall("ash-1"), [("notice", "ash", "bay", thing)])
        self.assertEqual(recalled(ash), ash.known())

    def test_called_back_things_cannot_be_changed(self):
        ash = family()
        ash.recall("ash-1")
        for thing in ("ash-5", "ash-8", "ash-10", "ash-12"):
            self.assertRaises(Frozen, ash.use, thing)
            self.assertRaises(Frozen, ash.give, thing, "bay")
            self.assertRaises(Frozen, ash.split, thing, [1, ash.entry(thing)[2] - 1])
            self.assertRaises(Frozen, ash.join, [thing, "ash-3"])
            self.assertRaises(Frozen, ash.recall, thing)
            self.assertIn(thing, ash.held())


class NoticeTest(unittest.TestCase):
    def test_with_all_that_was_made_of_it(self):
        bay = Office("bay", "got ash-1 ash 40 2 ash\nsplit ash-1 bay-1 10 bay-2 30\nregister bay-3 5\n")
        bay.receive(("notice", "ash", "bay", "ash-1"))
        self.assertEqual(recalled(bay), ["ash-1", "bay-1", "bay-2"])
        self.assertRaises(Frozen, bay.use, "bay-1")
        self.assertEqual(recalled(Office("bay", bay.journal())), ["ash-1", "bay-1", "bay-2"])

    def test_ahead_of_the_thing(self):
        bay = Office("bay", "register bay-1 5\n")
        bay.receive(("notice", "ash", "bay", "ash-1"))
        self.assertEqual(bay.entry("ash-1"), ("ash-1", None, 0, 0, "unknown", None, True))
        self.assertEqual((bay.known(), bay.held()), (["bay-1", "ash-1"], ["bay-1"]))
        bay.create(7)
        self.assertEqual(bay.receive(("deed", "ash", "bay", "ash-1", "cob", 40, 2)), [("receipt", "bay", "ash", "ash-1", 2)])
        self.assertEqual(bay.entry("ash-1"), ("ash-1", "cob", 40, 2, "held", None, True))
        self.assertEqual((bay.known(), bay.held()), (["bay-1", "ash-1", "bay-2"], ["bay-1", "ash-1", "bay-2"]))
        self.assertRaises(Frozen, bay.give, "ash-1", "ash")
        self.assertRaises(Frozen, bay.recall, "ash-1")
        self.assertEqual(bay.receive(("notice", "ash", "bay", "ash-1")), [("noted", "bay", "ash", "ash-1")])


class WorldTest(unittest.TestCase):
    def lead(self, *steps):
        world = World(["ash", "bay", "cob", "zed"])
        for word, *words in steps:
            getattr(world, word)(*words)
        return world

    def check_known(self, world, expected):
        world.calm()
        for name, things in expected.items():
            self.assertEqual(sorted(recalled(world.office(name))), sorted(things), name)

    def test_through_parts_at_other_offices(self):
        world = self.lead(
            ("create", "ash", 40), ("give", "ash", "ash-1", "bay"), ("calm",), ("split", "bay", "ash-1", [10, 30]),
            ("give", "bay", "bay-2", "cob"), ("calm",), ("create", "cob", 1), ("split", "cob", "bay-2", [15, 15]),
            ("give", "cob", "cob-2", "zed"), ("give", "cob", "cob-3", "ash"), ("calm",),
            ("recall", "ash", "ash-1"))
        self.check_known(world, {
            "ash": ["ash-1", "cob-3"], "bay": ["ash-1", "bay-1", "bay-2"], "cob": ["bay-2", "cob-2", "cob-3"],
            "zed": ["cob-2"]})

    def test_by_a_former_holder_in_the_middle(self):
        world = self.lead(
            ("create", "ash", 40), ("give", "ash", "ash-1", "bay"), ("calm",), ("give", "bay", "ash-1", "cob"), ("calm",),
            ("give", "cob", "ash-1", "zed"), ("calm",), ("recall", "bay", "ash-1"))
        self.check_known(world, {"ash": [], "bay": ["ash-1"], "cob": ["ash-1"], "zed": ["ash-1"]})

    def test_of_a_thing_that_went_round(self):
        world = self.lead(("create", "ash", 40), ("give", "ash", "ash-1", "bay"), ("calm",),
                          ("give", "bay", "ash-1", "cob"), ("calm",), ("give", "cob", "ash-1", "bay"), ("calm",),
                          ("give", "bay", "ash-1", "zed"), ("calm",), ("recall", "ash", "ash-1"))
        self.check_known(world, {"ash": ["ash-1"], "bay": ["ash-1"], "cob": [], "zed": ["ash-1"]})
        self.assertEqual(world.office("zed").held(), ["ash-1"])

    def test_notice_overtakes_the_deed(self):
        world = self.lead(("create", "ash", 40), ("give", "ash", "ash-1", "bay"), ("recall", "ash", "ash-1"))
        self.assertEqual(world.deliver(1), ("notice", "ash", "bay", "ash-1"))
        self.assertEqual(world.office("bay").entry("ash-1"), ("ash-1", None, 0, 0, "unknown", None, True))
        world.deliver(0)
        self.assertEqual(world.office("bay").entry("ash-1"), ("ash-1", "ash", 40, 2, "held", None, True))
        self.check_known(world, {"ash": ["ash-1"], "bay": ["ash-1"], "cob": []})

    def test_called_back_while_it_comes_back(self):
        world = self.lead(("create", "ash", 40), ("give", "ash", "ash-1", "bay"), ("calm",),
                          ("give", "bay", "ash-1", "ash"), ("recall", "ash", "ash-1"))
        self.check_known(world, {"ash": ["ash-1"], "bay": ["ash-1"]})
        self.assertEqual(world.office("ash").held(), ["ash-1"])
        self.assertRaises(Frozen, world.give, "ash", "ash-1", "cob")

    def test_joined_with_others_elsewhere(self):
        world = self.lead(
            ("create", "ash", 40), ("create", "ash", 5), ("give", "ash", "ash-1", "bay"), ("give", "ash", "ash-2", "bay"),
            ("calm",), ("join", "bay", ["ash-2", "ash-1"]), ("give", "bay", "bay-1", "cob"), ("calm",),
            ("recall", "ash", "ash-2"))
        self.check_known(world, {"ash": ["ash-2"], "bay": ["ash-2", "bay-1"], "cob": ["bay-1"]})

    def test_used_things_are_paid_all_the_same(self):
        world = self.lead(("create", "ash", 40), ("give", "ash", "ash-1", "bay"), ("calm",), ("use", "bay", "ash-1"),
                          ("recall", "ash", "ash-1"))
        self.check_known(world, {"ash": ["ash-1"], "bay": ["ash-1"]})
        self.assertEqual(world.office("bay").credit(), 40)

    def test_notices_in_any_order_lost_and_doubled(self):
        for seed in range(40):
            rng = random.Random(seed)
            world = self.lead(
                ("create", "ash", 60), ("split", "ash", "ash-1", [10, 20, 30]), ("give", "ash", "ash-2", "bay"),
                ("give", "ash", "ash-3", "cob"), ("calm",), ("give", "bay", "ash-2", "zed"), ("give", "cob", "ash-3", "bay"),
                ("recall", "ash", "ash-1"))
            for _ in range(12):
                many = len(world.net.letters())
                if not many:
                    break
                action = rng.choice([world.deliver, world.deliver, world.net.take, world.net.double])
                action(rng.randrange(many))
            self.check_known(world, {
                "ash": ["ash-1", "ash-2", "ash-3", "ash-4"], "bay": ["ash-2", "ash-3"], "cob": ["ash-3"], "zed": ["ash-2"]})


if __name__ == "__main__":
    unittest.main()
