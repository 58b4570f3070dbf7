"""An office is its journal (points 1.3, 3.1 and 4.1)."""

import random
import unittest

from letterheld.office import Office
from tests import leading
from tests.leading import NAMES, book_of

TAILS = ["", "use as", "register ash-1 7", "nonsense", " ", "use  ash-1", "pay"]


class JournalTest(unittest.TestCase):
    def check_again(self, office):
        again = Office(office.name, office.journal())
        self.assertEqual(book_of(again), book_of(office))
        self.assertEqual(again.name, office.name)

    def check_beginnings(self, office):
        journal = office.journal()
        ends = [at + 1 for at, sign in enumerate(journal) if sign == "\n"]
        for end in [0] + ends:
            beginning = Office(office.name, journal[:end])
            self.assertEqual(beginning.journal(), journal[:end])

    def check_tails(self, office):
        for tail in TAILS:
            again = Office(office.name, office.journal() + tail)
            self.assertEqual(book_of(again), book_of(office))

    def test_worlds_at_every_moment(self):
        for seed in range(60):
            rng = random.Random(seed)
            world = None
            for step, (world,), _ in leading.run(rng, NAMES[:1 + seed % 4], 60):
                for name in world.names():
                    self.check_again(world.office(name))
            for name in world.names():
                self.check_beginnings(world.office(name))
                self.check_tails(world.office(name))

    def test_each_beginning_is_what_the_office_once_was(self):
        """A command or a letter writes one line at the most, and the lines of an office are never changed."""
        for seed in range(100, 130):
            once = {name: [book_of(Office(name))] for name in NAMES}
            for step, (world,), _ in leading.run(random.Random(seed), NAMES, 60):
                for name in NAMES:
                    before, now = once[name][-1][0], world.office(name).journal()
                    self.assertTrue(now.startswith(before), step)
                    if step[0] != "calm":
                        self.assertLessEqual(now[len(before):].count("\n"), 1, step)
                    if now != before:
                        once[name].append(book_of(world.office(name)))
            for name in NAMES:
                for book in once[name]:
                    self.assertEqual(book_of(Office(name, book[0])), book)

    def test_cut_at_any_sign(self):
        for seed in range(200, 210):
            world = leading.world_after(random.Random(seed), NAMES, 40)
            for name in NAMES:
                journal = world.office(name).journal()
                for end in range(len(journal) + 1):
                    whole = journal[:journal.rfind("\n", 0, end) + 1]
                    self.assertEqual(Office(name, journal[:end]).journal(), whole)

    def test_goes_on_alike(self):
        for seed in range(300, 320):
            world = leading.world_after(random.Random(seed), NAMES, 50)
            for name in NAMES:
                first, second = world.office(name), Office(name, world.office(name).journal() + "use")
                self.assertEqual(first.create(5), second.create(5))
                for thing in first.known():
                    for action in ("use", "recall"):
                        self.assertEqual(leading.outcome(getattr(first, action), thing),
                                         leading.outcome(getattr(second, action), thing))
                self.assertEqual(book_of(first), book_of(second))

    def test_no_command_writes_what_could_not_be_read_again(self):
        """Letters that no world writes can bring the greatest epoch, or take away the next number."""
        ash = Office("ash", "register ash-1 40\n")
        ash.receive(("deed", "bay", "ash", "bay-1", "bay", 5, 1000000000))
        ash.receive(("notice", "bay", "ash", "ash-2"))
        before = book_of(ash)
        for action, words in (("give", ("bay-1", "cob")), ("create", (5,)), ("split", ("ash-1", [10, 30]))):
            self.assertEqual(leading.outcome(getattr(ash, action), *words)[0], "error")
            self.assertEqual(book_of(ash), before)
        self.check_again(ash)

    def test_small_journal_in_full(self):
        journal = "register ash-1 40\nsplit ash-1 ash-2 15 ash-3 25\ngive ash-2 2 bay\nuse ash-3\npay ash-3 ash 25\n"
        journal += "paid ash-3 25\nreceipt ash-2 2\nrecall ash-1\nnoted ash-2 bay\npay bay-7 bay 3\n"
        office = Office("ash", journal)
        self.assertEqual(book_of(office), (
            journal,
            [("ash-1", "ash", 40, 1, "split", None, True),
             ("ash-2", "ash", 15, 2, "given", "bay", True),
             ("ash-3", "ash", 25, 1, "used", None, True)],
            ["ash-1", "ash-2", "ash-3"], [], [], [("ash-3", "ash", 25), ("bay-7", "bay", 3)], 25))


if __name__ == "__main__":
    unittest.main()
