"""Sessions: the commands and their answers, and transcripts (points 7.1 to 7.4)."""

import random
import unittest

from letterheld import audit
from letterheld.session import Session
from letterheld.world import World
from tests import commanding
from tests.leading import NAMES, journals_of, outcome, view_of

TOP = 1000000000


class AnswersTest(unittest.TestCase):
    def lead(self, names, *pairs):
        """Run commands; those with a second word are answered by its lines, the others by `ok`."""
        session = Session(names)
        for pair in pairs:
            command, *lines = pair if isinstance(pair, tuple) else (pair, "ok")
            self.assertEqual(session.run(command), lines, command)
        return session

    def test_new(self):
        session = Session(["cob", "ash", "bay"])
        self.assertIsInstance(session.world, World)
        self.assertEqual(session.world.names(), ["ash", "bay", "cob"])
        self.assertEqual(session.transcript(), "session ash bay cob\n")
        self.assertEqual(session.journals(), {"ash": "", "bay": "", "cob": ""})
        self.assertEqual(list(session.journals()), ["ash", "bay", "cob"])

    def test_names_that_are_none(self):
        for names in ([""], ["ash", "ash"], ["Ash"], ["ash", "b-1"], ["a" * 13], ["ash bay"]):
            self.assertEqual(outcome(Session, names)[1], "InvalidOffice")

    def test_making_and_joining(self):
        self.lead(
            ["ash", "bay"], ("register ash 40", "ash-1"), ("register bay 1000000000", "bay-1"), ("register ash 1", "ash-2"),
            ("split ash ash-1 15 24 1", "ash-3 ash-4 ash-5"), ("join ash ash-5 ash-2 ash-3", "ash-6"),
            ("split ash ash-6 16 1", "ash-7 ash-8"), ("join ash ash-8 ash-7", "ash-9"), ("register ash 9", "ash-10"))

    def test_letters(self):
        deed, receipt = "deed ash bay ash-1 ash 40 2", "receipt bay ash ash-1 2"
        self.lead(
            ["ash", "bay"], ("letters",), ("register ash 40", "ash-1"), "give ash ash-1 bay", ("letters", deed), "tick ash",
            ("letters", deed, deed), "double 0", ("letters", deed, deed, deed), ("lose 2", deed), ("deliver 1", deed),
            ("letters", deed, receipt), "double 1", ("lose 0", deed), ("deliver 1", receipt), ("letters", receipt),
            ("lose 0", receipt), ("letters",), "tick ash", "tick bay", ("letters",))

    def test_all_six_letters(self):
        self.lead(
            ["ash", "bay"], ("register ash 40", "ash-1"), ("register ash 7", "ash-2"), "give ash ash-1 bay",
            ("deliver 0", "deed ash bay ash-1 ash 40 2"), "give ash ash-2 bay", "recall ash ash-2", "use bay ash-1",
            ("letters", "receipt bay ash ash-1 2", "deed ash bay ash-2 ash 7 2", "notice ash bay ash-2", "claim bay ash ash-1 40"),
            ("deliver 2", "notice ash bay ash-2"), ("deliver 2", "claim bay ash ash-1 40"),
            ("letters", "receipt bay ash ash-1 2", "deed ash bay ash-2 ash 7 2", "noted bay ash ash-2", "paid ash bay ash-1 40"),
            ("deliver 3", "paid ash bay ash-1 40"), ("deliver 2", "noted bay ash ash-2"), ("calm", "rounds 1"), ("calm", "rounds 0"))

    def test_calm(self):
        self.lead(
            ["ash", "bay"], ("calm", "rounds 0"), ("register ash 40", "ash-1"), ("calm", "rounds 0"), "give ash ash-1 bay",
            ("calm", "rounds 1"), ("calm", "rounds 0"), "use bay ash-1", ("lose 0", "claim bay ash ash-1 40"),
            ("calm", "rounds 1"), ("letters",), ("calm", "rounds 0"))

    def test_journal_and_book(self):
        self.lead(
            ["ash", "bay", "cob"], ("journal ash",), ("book ash", "credit 0"), ("register ash 40", "ash-1"),
            ("register ash 7", "ash-2"), "give ash ash-1 bay", "recall ash ash-1", ("deliver 1", "notice ash bay ash-1"),
            ("book bay", "ash-1 - 0 0 unknown - yes", "credit 0"), ("deliver 0", "deed ash bay ash-1 ash 40 2"),
            ("book bay", "ash-1 ash 40 2 held - yes", "credit 0"), "give ash ash-2 cob", ("calm", "rounds 1"), "use cob ash-2",
            ("register ash 5", "ash-3"), "use ash ash-3", ("calm", "rounds 1"),
            ("journal ash", "register ash-1 40", "register ash-2 7", "give ash-1 2 bay", "recall ash-1", "give ash-2 2 cob",
             "noted ash-1 bay", "receipt ash-1 2", "receipt ash-2 2", "register ash-3 5", "use ash-3", "pay ash-2 cob 7",
             "pay ash-3 ash 5", "paid ash-3 5"),
            ("journal bay", "notice ash-1 ash", "got ash-1 ash 40 2 ash"),
            ("book ash", "ash-1 ash 40 2 given bay yes", "ash-2 ash 7 2 given cob no", "ash-3 ash 5 1 used - no",
             "paid ash-2 cob 7", "paid ash-3 ash 5", "credit 5"),
            ("book cob", "ash-2 ash 7 2 used - no", "credit 7"))

    def test_audit(self):
        self.lead(
            ["ash", "bay", "cob"], ("holders",), ("claims",), ("recalls",), ("audit", "totals 0 0 0"), ("register ash 40", "ash-1"),
            ("parts ash-1", "of", "into"), ("history ash-1", "1 ash - held"), "give ash ash-1 bay",
            ("history ash-1", "1 ash - given", "2 bay ash under way"), ("holders", "ash-1 under way bay 2"),
            ("calm", "rounds 1"), ("history ash-1", "1 ash - given", "2 bay ash held"),
            ("split bay ash-1 10 30", "bay-1 bay-2"), ("join bay bay-2 bay-1", "bay-3"), ("split bay bay-3 5 35", "bay-4 bay-5"),
            ("holders", "ash-1 split bay 2", "bay-1 joined bay 1", "bay-2 joined bay 1", "bay-3 split bay 1",
             "bay-4 held bay 1", "bay-5 held bay 1"),
            ("parts bay-3", "of ash-1 bay-1 bay-2", "into bay-4 bay-5"), ("parts ash-1", "of", "into bay-1 bay-2 bay-3 bay-4 bay-5"),
            ("parts bay-5", "of ash-1 bay-1 bay-2 bay-3", "into"), "use bay bay-4", ("claims", "bay-4 bay ash 5 open"),
            ("deliver 0", "claim bay ash bay-4 5"), ("claims", "bay-4 bay ash 5 paid"), ("deliver 0", "paid ash bay bay-4 5"),
            ("claims", "bay-4 bay ash 5 credited"), ("history bay-4", "1 bay - used"), "give bay bay-5 cob", "recall ash ash-1",
            ("recalls", "ash-1 ash"), ("calm", "rounds 1"),
            ("recalls", "ash-1 ash bay", "bay-1 bay", "bay-2 bay", "bay-3 bay", "bay-4 bay", "bay-5 bay cob"),
            ("audit", "totals 40 5 35"))

    def test_ascending_order_of_things(self):
        self.lead(
            ["ash"], *[("register ash 5", f"ash-{number}") for number in range(1, 12)],
            ("holders", *[f"ash-{number} held ash 1" for number in range(1, 12)]))

    def test_audit_with_faults(self):
        """A world can only be led to faults from outside."""
        session = Session(["ash", "bay"])
        session.world.office("bay").receive(("deed", "ash", "bay", "ash-1", "ash", 40, 2))
        session.world.office("ash").receive(("notice", "bay", "ash", "ash-9"))
        self.assertEqual(session.run("audit"), ["totals 0 0 0", "ash 1 notice", "bay 1 deed"])

    def test_cut(self):
        session = self.lead(
            ["ash", "bay"], ("register ash 40", "ash-1"), "give ash ash-1 bay", "cut ash", "cut bay",
            ("letters", "deed ash bay ash-1 ash 40 2"), ("journal ash", "register ash-1 40", "give ash-1 2 bay"))
        before = session.world.office("ash")
        session.run("cut ash")
        self.assertIsNot(session.world.office("ash"), before)

    def test_journals(self):
        session = self.lead(["bay", "ash"], ("register bay 40", "bay-1"), "give bay bay-1 ash", ("calm", "rounds 1"))
        expected = {"ash": "got bay-1 bay 40 2 bay\n", "bay": "register bay-1 40\ngive bay-1 2 ash\nreceipt bay-1 2\n"}
        self.assertEqual(list(session.journals().items()), list(expected.items()))
        session.journals().clear()
        self.assertEqual(session.journals(), expected)

    def test_returned_lines_are_a_new_list(self):
        session = Session(["ash"])
        session.run("register ash 40").append("more")
        session.run("holders").clear()
        self.assertEqual(
            session.transcript(), "session ash\n> register ash 40\nash-1\n> holders\nash-1 held ash 1\n")

    def test_names_in_a_list_that_changes(self):
        names = ["bay", "ash"]
        session = Session(names)
        names.clear()
        self.assertEqual(session.run("register ash 5"), ["ash-1"])
        self.assertEqual(session.transcript(), "session ash bay\n> register ash 5\nash-1\n")


class TornTest(unittest.TestCase):
    LED = ["register ash 40", "register ash 8", "split ash ash-2 3 5", "register bay 9", "give ash ash-1 bay", "deliver 0",
           "recall ash ash-1", "use bay bay-1", "give ash ash-4 cob"]
    # Each with the office and the line that it would write; in the net lie a receipt, a notice, a claim and a deed.
    TORN = [
        ("register cob 7", "cob", "register cob-1 7\n"),
        ("register ash 1000000000", "ash", "register ash-5 1000000000\n"),
        ("give ash ash-3 cob", "ash", "give ash-3 2 cob\n"),
        ("split ash ash-3 1 2", "ash", "split ash-3 ash-5 1 ash-6 2\n"),
        ("use ash ash-3", "ash", "use ash-3\n"),
        ("recall ash ash-2", "ash", "recall ash-2\n"),
        ("deliver 0", "ash", "receipt ash-1 2\n"),
        ("deliver 1", "bay", "notice ash-1 ash\n"),
        ("deliver 2", "bay", "pay bay-1 bay 9\n"),
        ("deliver 3", "cob", "got ash-4 ash 5 2 ash\n"),
    ]

    def led(self):
        session = Session(["ash", "bay", "cob"])
        for command in self.LED:
            self.assertNotIn("error", session.run(command)[0])
        return session

    def check_torn(self, session, signs, command, name, line):
        """The first signs of the line are written, and nothing else happens but that a letter is gone."""
        letters = session.world.net.letters()
        journals = session.journals()
        self.assertEqual(session.run(f"torn {signs} {command}"), ["ok"])
        if command.startswith("deliver"):
            letters.pop(int(command.split(" ")[1]))
        self.assertEqual(session.world.net.letters(), letters)
        journals[name] += line if signs >= len(line) else ""
        self.assertEqual(session.journals(), journals)

    def test_every_number_of_signs(self):
        for command, name, line in self.TORN:
            for signs in list(range(len(line) + 3)) + [1000, TOP]:
                self.check_torn(self.led(), signs, command, name, line)

    def test_join(self):
        line = "join ash-5 ash-4 ash-3\n"
        for signs in list(range(len(line) + 3)) + [TOP]:
            session = Session(["ash"])
            session.run("register ash 8")
            session.run("register ash 9")
            session.run("split ash ash-1 3 5")
            self.check_torn(session, signs, "join ash ash-4 ash-3", "ash", line)

    def test_the_office_is_another_one_behind_it(self):
        for command, name, _ in self.TORN:
            session = self.led()
            before = session.world.office(name)
            session.run("torn 0 " + command)
            self.assertIsNot(session.world.office(name), before)

    def test_where_nothing_would_be_written(self):
        for signs in (0, 1, 7, 100):
            session = self.led()
            session.run("double 0")
            session.run("deliver 0")
            letters, journals = session.world.net.letters(), session.journals()
            self.assertEqual(session.run(f"torn {signs} deliver 3"), ["ok"])
            self.assertEqual(session.world.net.letters(), letters[:3])
            self.assertEqual(session.journals(), journals)

    def test_it_goes_on_behind_a_torn_line(self):
        for command, _, line in self.TORN:
            for signs in (0, 1, len(line) - 1, len(line)):
                session = self.led()
                session.run(f"torn {signs} {command}")
                self.assertEqual(session.run("calm"), ["rounds 1"])
                self.assertEqual(session.run("letters"), [])
                self.assertEqual(len(session.run("audit")), 1)
                self.assertEqual(session.world.office("bay").credit(), 9)
                self.assertEqual(session.world.office("cob").entry("ash-4")[4], "held")

    def test_errors(self):
        for command, name in (
                ("register zed 7", "InvalidOffice"), ("give ash ash-3 zed", "InvalidOffice"), ("give zed ash-3 ash", "InvalidOffice"),
                ("give ash ash-3 ash", "InvalidOffice"), ("give ash ash-1 bay", "NotHeld"), ("give bay bay-1 ash", "NotHeld"),
                ("use ash ash-9", "NotHeld"), ("split ash ash-3 1 1", "InvalidQuantity"), ("split ash ash-3 3", "InvalidQuantity"),
                ("join ash ash-3", "InvalidThings"), ("join ash ash-3 ash-3", "InvalidThings"), ("recall ash ash-1", "Frozen"),
                ("recall ash bay-1", "UnknownThing"), ("recall ash ash-9", "UnknownThing"), ("deliver 4", "NoLetter"),
                ("deliver 1000000000", "NoLetter")):
            for signs in (0, 3, 100):
                session = self.led()
                before = view_of(session.world)
                self.assertEqual(session.run(f"torn {signs} {command}"), ["error " + name], command)
                self.assertEqual(view_of(session.world), before)

    def test_no_letters_of_the_line_are_sent(self):
        session = self.led()
        letters = session.run("letters")
        session.run("torn 1000 give ash ash-3 cob")
        self.assertEqual(session.run("letters"), letters)
        session.run("tick ash")
        self.assertIn("deed ash cob ash-3 ash 3 2", session.run("letters")[len(letters):])


class RunsTest(unittest.TestCase):
    def test_beside_a_world_that_is_led_alike(self):
        for seed in range(250):
            names = NAMES[:1 + seed % 4]
            session = Session(names)
            expected = "session " + " ".join(names) + "\n"
            for command, answer, world in commanding.commands(random.Random(seed), names, 60):
                self.assertEqual(session.run(command), answer, (seed, command))
                self.assertEqual(view_of(session.world), view_of(world), (seed, command))
                expected += "> " + command + "\n" + "".join(line + "\n" for line in answer)
            self.assertEqual(session.transcript(), expected)
            self.assertEqual(session.journals(), journals_of(world))

    def test_books_and_journals_at_the_end(self):
        for seed in range(300, 330):
            session = commanding.led_session(seed, NAMES, 60)
            things = list(audit.holders(session.journals()))
            for name in NAMES:
                for word in ("journal", "book"):
                    command = f"{word} {name}"
                    self.assertEqual(session.run(command), commanding.listed(session.world, command))
            for thing in things:
                for word in ("history", "parts"):
                    command = f"{word} {thing}"
                    self.assertEqual(session.run(command), commanding.listed(session.world, command))

    def test_listening_changes_nothing(self):
        for seed in range(400, 420):
            session = commanding.led_session(seed, NAMES, 60)
            before = view_of(session.world)
            for command in commanding.LISTENING + ["journal ash", "book zed", "history ash-1", "parts ash-1"]:
                session.run(command)
                self.assertEqual(view_of(session.world), before)


if __name__ == "__main__":
    unittest.main()
