"""The frame of the whole program: arguments stay as they were, errors are the program's own (points 0.1 to 0.3)."""

import random
import unittest
from copy import deepcopy

from letterheld import audit, errors
from letterheld.net import Net
from letterheld.notation import format_journal, format_letter, format_line
from letterheld.office import Office
from letterheld.session import Session, replay
from letterheld.world import World
from tests import commanding, leading
from tests.leading import NAMES, journals_of


class FrameTest(unittest.TestCase):
    def test_arguments_stay_as_they_were(self):
        rng = random.Random(1)
        world = leading.world_after(rng, NAMES, 60)
        journals = journals_of(world)
        things = list(audit.holders(journals))
        ash = Office("ash")
        ash.create(10)
        calls = [(function, (journals,)) for function in (
            audit.holders, audit.claims, audit.called_back, audit.totals, audit.faults)]
        calls += [(function, (journals, thing)) for function in (audit.history, audit.parts) for thing in things]
        calls += [
            (World, (["bay", "ash"],)), (Session, (["bay", "ash"],)), (ash.split, ("ash-1", [3, 3, 4])),
            (ash.join, (["ash-4", "ash-2"],)), (world.join, ("ash", ["ash-9", "ash-9"])), (world.split, ("ash", "ash-1", [1, 0])),
            (format_journal, ([("use", "ash-1")],)), (format_line, (("use", "ash-1"),)), (Net().send, (("notice", "a", "b", "c-1"),)),
            (format_letter, (("notice", "a", "b", "c-1"),)), (ash.receive, (("notice", "bay", "ash", "ash-1"),)),
        ]
        for action, words in calls:
            kept = deepcopy(words)
            leading.outcome(action, *words)
            self.assertEqual(words, kept, action)
            if isinstance(words[0], dict):
                self.assertEqual(list(words[0]), list(kept[0]))

    def test_the_same_calls_do_the_same(self):
        for seed in range(20):
            first, second = (commanding.led_session(seed, NAMES, 50) for _ in range(2))
            self.assertEqual(first.transcript(), second.transcript())
            self.assertEqual(first.journals(), second.journals())

    def test_numbers_are_integers(self):
        world = leading.world_after(random.Random(3), NAMES, 60)
        world.calm()
        for name in NAMES:
            office = world.office(name)
            self.assertIs(office.credit().__class__, int)
            for thing in office.known():
                self.assertEqual([part.__class__ for part in office.entry(thing)[2:4]], [int, int])
                self.assertIs(office.entry(thing)[6].__class__, bool)
        self.assertEqual([part.__class__ for part in audit.totals(journals_of(world))], [int, int, int])
        self.assertIs(world.calm().__class__, int)

    def test_all_errors_are_of_the_program(self):
        world = World(["ash"])
        for action in (lambda: world.office("bay"), lambda: world.deliver(0), lambda: world.create("ash", 0),
                       lambda: world.use("ash", "ash-1"), lambda: world.recall("ash", "ash-1"), lambda: world.join("ash", []),
                       lambda: world.cut("ash", "use ash-1\n"), lambda: world.cut("ash", "\n"), lambda: replay(""),
                       lambda: audit.history({}, "ash-1"), lambda: audit.totals({"ash": "\n"})):
            with self.assertRaises(errors.HeldError) as caught:
                action()
            self.assertIs(caught.exception.__class__.__bases__[0], errors.HeldError)
            self.assertEqual(caught.exception.__class__.__module__, "letterheld.errors")


if __name__ == "__main__":
    unittest.main()
