"""Worlds that are led for many steps: what holds at every moment and behind `calm` (points 5.1 to 5.5)."""

import random
import unittest

from letterheld.world import World
from tests import leading
from tests.leading import NAMES, perform, view_of
from tests.plain import PlainWorld
from tests.truths import check_calm_world, check_world


def copy_of(world):
    """Another world that is now as this one is."""
    copy = World(world.names())
    for name in world.names():
        copy.cut(name, world.office(name).journal())
    for letter in world.net.letters():
        copy.net.send(letter)
    return copy


def all_commands(world):
    """One command of each kind for each office and each thing that it can act on."""
    for name in world.names():
        office = world.office(name)
        free = [thing for thing in office.held() if not office.entry(thing)[6]]
        yield "create", name, 5
        for thing in free:
            quantity = office.entry(thing)[2]
            yield "use", name, thing
            for other in world.names():
                if other != name:
                    yield "give", name, thing, other
            if quantity > 1:
                yield "split", name, thing, [1, quantity - 1]
        for first in free:
            for second in free:
                if first < second and office.entry(first)[1] == office.entry(second)[1]:
                    if office.entry(first)[2] + office.entry(second)[2] <= leading.TOP:
                        yield "join", name, [first, second]
        for thing in office.known():
            if office.entry(thing)[4] != "unknown" and not office.entry(thing)[6]:
                yield "recall", name, thing


class RunsTest(unittest.TestCase):
    def test_runs_beside_a_plain_model(self):
        for seed in range(300):
            rng = random.Random(seed)
            worlds = None
            for step, worlds, told in leading.run(rng, NAMES[:1 + seed % 4], 60, PlainWorld):
                self.assertEqual(told[0], told[1], (seed, step))
                self.assertEqual(view_of(worlds[0]), view_of(worlds[1]), (seed, step))
            told = [world.calm() for world in worlds]
            self.assertEqual(told[0], told[1])
            self.assertEqual(view_of(worlds[0]), view_of(worlds[1]))

    def test_what_holds_at_every_moment(self):
        for seed in range(1000, 1200):
            for step, (world,), _ in leading.run(random.Random(seed), NAMES[:1 + seed % 4], 60):
                check_world(self, world)

    def test_every_moment_can_be_calmed(self):
        for seed in range(2000, 2040):
            for step, (world,), _ in leading.run(random.Random(seed), NAMES[:2 + seed % 3], 60):
                copy = copy_of(world)
                busy = copy.net.letters() or any(copy.office(name).pending() for name in copy.names())
                self.assertEqual(copy.calm(), 1 if busy else 0)
                check_calm_world(self, copy)
                before = view_of(copy)
                self.assertEqual(copy.calm(), 0)
                self.assertEqual(view_of(copy), before)

    def test_errors_change_nothing(self):
        errors = 0
        for seed in range(3000, 3060):
            before = view_of(World(NAMES))
            for step, (world,), (told,) in leading.run(random.Random(seed), NAMES, 60):
                if told[0] == "error":
                    errors += 1
                    self.assertEqual(view_of(world), before, step)
                before = view_of(world)
        self.assertGreater(errors, 300)


class CutsTest(unittest.TestCase):
    def check_cuts(self, world, step):
        """A cut at each sign of the line that a step writes leads to the office of before or behind it."""
        name, line = leading.line_of(world, step)
        before = world.office(name).journal()
        for signs in range(len(line) + 1):
            copy = copy_of(world)
            kept = view_of(copy)
            for cut in leading.torn_steps(world, step, signs):
                self.assertEqual(perform(copy, cut)[0], "value")
            self.assertEqual(copy.office(name).journal(), before + line if signs == len(line) else before)
            if signs < len(line) and step[0] != "deliver":
                self.assertEqual(view_of(copy), kept)
            if signs in (0, len(line) - 1, len(line)):
                check_world(self, copy)
                copy.calm()
                check_calm_world(self, copy)

    def test_commands(self):
        for seed in range(8):
            world = leading.world_after(random.Random(seed), NAMES[:2 + seed % 3], 25)
            steps = list(all_commands(world))
            for step in random.Random(seed).sample(steps, min(25, len(steps))):
                self.check_cuts(world, step)

    def test_letters(self):
        tried = 0
        for seed in range(20):
            world = leading.world_after(random.Random(seed), NAMES[:2 + seed % 3], 40)
            for name in world.names():
                world.tick(name)
            for place in range(len(world.net.letters())):
                tried += 1
                self.check_cuts(world, ("deliver", place))
        self.assertGreater(tried, 40)

    def test_all_commands_that_can_be_given_are_answered(self):
        for seed in range(30):
            world = leading.world_after(random.Random(seed), NAMES, 30)
            for step in all_commands(world):
                copy = copy_of(world)
                self.assertEqual(perform(copy, step)[0], "value", step)
                check_world(self, copy)


class LettersAgainTest(unittest.TestCase):
    def letters_of_run(self, seed):
        """A world and all letters that ever were in its net."""
        seen = {}
        world = None
        for step, (world,), _ in leading.run(random.Random(seed), NAMES[:2 + seed % 3], 60):
            seen.update(dict.fromkeys(world.net.letters()))
        return world, list(seen)

    def test_in_any_order_some_twice(self):
        for seed in range(60):
            rng = random.Random(seed)
            world, letters = self.letters_of_run(seed)
            letters += rng.sample(letters, len(letters) // 3)
            rng.shuffle(letters)
            for letter in letters:
                world.net.send(letter)
                self.assertEqual(world.deliver(len(world.net.letters()) - 1), letter)
                check_world(self, world)
            self.assertIn(world.calm(), (0, 1))
            check_calm_world(self, world)

    def test_behind_calm_they_change_nothing(self):
        for seed in range(100, 140):
            world, letters = self.letters_of_run(seed)
            world.calm()
            before = leading.journals_of(world)
            random.Random(seed).shuffle(letters)
            for letter in letters:
                world.office(letter[2]).receive(letter)
            self.assertEqual(leading.journals_of(world), before)


if __name__ == "__main__":
    unittest.main()
