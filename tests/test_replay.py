"""Replaying transcripts (points 7.4 and 7.5)."""

import random
import unittest

from letterheld.errors import HeldError, InvalidCommand
from letterheld.session import Session, replay
from tests import commanding
from tests.leading import NAMES, view_of

SMALL = (
    "session ash bay\n"                     # 1
    "> register ash 40\n"                   # 2
    "ash-1\n"                               # 3
    "> letters\n"                           # 4
    "> give ash ash-1 bay\n"                # 5
    "ok\n"                                  # 6
    "> use ash ash-1\n"                     # 7
    "error NotHeld\n"                       # 8
    "> nonsense\n"                          # 9
    "error InvalidCommand\n"                # 10
    "> deliver 0\n"                         # 11
    "deed ash bay ash-1 ash 40 2\n"         # 12
    "> book bay\n"                          # 13
    "ash-1 ash 40 2 held - no\n"            # 14
    "credit 0\n"                            # 15
)


def lines_of(text):
    """The lines of a text with their newlines."""
    lines = [line + "\n" for line in text.split("\n")]
    lines[-1] = lines[-1][:-1]
    return lines if lines[-1] else lines[:-1]


def difference(text, other):
    lines, others = lines_of(text), lines_of(other)
    for number in range(1, max(len(lines), len(others)) + 1):
        if lines[number - 1:number] != others[number - 1:number]:
            return number
    return None


class SmallTest(unittest.TestCase):
    def check(self, text, number):
        session, told = replay(text)
        self.assertIsInstance(session, Session)
        self.assertEqual(told, number, text)
        return session

    def test_the_same(self):
        session = self.check(SMALL, None)
        self.assertEqual(session.transcript(), SMALL)
        self.assertEqual(session.world.office("bay").held(), ["ash-1"])
        self.assertEqual(session.run("letters"), ["receipt bay ash ash-1 2"])
        self.assertEqual(replay(SMALL).__class__, tuple)

    def test_no_commands(self):
        for text in ("session ash\n", "session ash bay cob\n", "session a abcdefghijkl b\n"):
            self.assertEqual(self.check(text, None).transcript(), text)

    def test_a_line_left_out(self):
        lines = lines_of(SMALL)
        for at in range(2, len(lines) + 1):
            # A command whose answer has no lines can be left out, and it is a transcript all the same.
            expected = None if lines[at - 1] == "> letters\n" else at
            self.check("".join(lines[:at - 1] + lines[at:]), expected)

    def test_the_end_cut_off(self):
        for end in range(len("session ash bay\n"), len(SMALL)):
            text = SMALL[:end]
            lines = lines_of(text)
            last = lines[-1]
            expected = None
            if not last.endswith("\n"):
                expected = len(lines)
            elif last.startswith("> ") and last != "> letters\n" or last.startswith("ash-1 ash"):
                # Here a line of an answer is still to come; the answer of `letters` has none.
                expected = len(lines) + 1
            self.check(text, expected)

    def test_the_first_line_cut_off(self):
        self.check("session ash bay", 1)
        self.check("session ash ba", 1)
        self.check("session ash", 1)
        self.check("session a", 1)

    def test_lines_behind_it(self):
        for more, number in (("\n", 16), ("more\n", 16), ("more", 16), (" ", 16), ("credit 0\n", 16), ("> letters\n", 17),
                             ("> letters", 16), ("> letters\nreceipt bay ash ash-1 2\n", None), ("> tick bay\nok\n\n", 18),
                             ("> nonsense", 16), ("> ", 16), (">", 16), ("> \nerror InvalidCommand\n", None), ("\n> calm\n", 16),
                             ("> tick ash\nok", 17), ("> tick ash\nok\n", None), ("> tick ash\nok \n", 17)):
            self.check(SMALL + more, number)

    def test_lines_that_are_no_commands_are_not_run(self):
        for line in (">letters", ">", " > tick ash", "tick ash", ">>  ", "# tick ash"):
            session = self.check(SMALL.replace("> letters\n", line + "\n"), 4)
            self.assertEqual(len(session.world.net.letters()), 1)
        session = self.check(SMALL.replace("> letters\n", "\n"), 4)
        self.assertEqual(session.journals(), replay(SMALL)[0].journals())

    def test_commands_are_run_behind_a_difference(self):
        session = self.check(SMALL.replace("ash-1\n> letters", "ash-2\n> letters"), 3)
        self.assertEqual(session.transcript(), SMALL)
        session = self.check(SMALL.replace("> register ash 40", "> register ash 41"), 12)
        self.assertEqual(session.world.office("bay").entry("ash-1")[2], 41)

    def test_spaces_and_other_signs(self):
        self.check(SMALL.replace("credit 0\n", "credit 0 \n"), 15)
        self.check(SMALL.replace("credit 0\n", "credit 0\r\n"), 15)
        self.check(SMALL.replace("> letters\n", "> letters \n"), 5)
        self.check(SMALL.replace("> letters\n", "> letters\r\n"), 5)
        self.check(SMALL.replace("> letters\n", ">  letters\n"), 5)
        self.check(SMALL.replace("ok\n", "OK\n"), 6)

    def test_errors_of_the_first_line(self):
        for first in ("", "session", "session ", "session Ash", "session ash Bay", "session bay ash", "session ash ash", "session ash bay bay",
                      "session ash  bay", " session ash", "session ash ", "session  ash", "Session ash", "sessions ash", "session ash-1",
                      "ash bay", "> session ash", "session abcdefghijklm", "session ash\tbay", "session ash\r", "session ash bay ash",
                      "> register ash 40", "session 1", "session,ash", "session ash,bay", "sessionash"):
            for rest in ("", "\n", "\n" + SMALL, "\n> register ash 40\nash-1\n"):
                with self.assertRaises(InvalidCommand, msg=repr(first)) as caught:
                    replay(first + rest)
                self.assertIsInstance(caught.exception, HeldError)


class RunsTest(unittest.TestCase):
    def check_alike(self, session, other):
        self.assertEqual(other.transcript(), session.transcript())
        self.assertEqual(other.journals(), session.journals())
        self.assertEqual(view_of(other.world), view_of(session.world))

    def test_the_same(self):
        for seed in range(120):
            session = commanding.led_session(seed, NAMES[:1 + seed % 4], 50)
            other, told = replay(session.transcript())
            self.assertIsNone(told)
            self.check_alike(session, other)
            # Both go on alike; a third one leads the way.
            rng = random.Random(seed)
            world = replay(session.transcript())[0].world
            for _ in range(15):
                command, answer = commanding.next_command(rng, world)
                self.assertEqual(session.run(command), answer)
                self.assertEqual(other.run(command), answer)
            self.check_alike(session, other)

    def changed(self, rng, text):
        """A transcript that is changed at one place behind its first line."""
        lines = lines_of(text)
        at = rng.randrange(1, len(lines))
        draw = rng.randrange(6)
        if draw == 0:
            lines.pop(at)
        elif draw == 1:
            lines.insert(at, lines[at])
        elif draw == 2:
            lines[at] = lines[rng.randrange(1, len(lines))]
        elif draw == 3:
            line = lines[at]
            place = rng.randrange(len(line) - 1) if len(line) > 1 else 0
            lines[at] = line[:place] + rng.choice("> a1-x") + line[place + 1:]
        elif draw == 4:
            return text[:rng.randrange(len(lines[0]), len(text) + 1)]
        else:
            lines.append(rng.choice(["more\n", "> letters\n", "ok", "\n", "> tick ash\nok\n"]))
        return "".join(lines)

    def test_changed_transcripts(self):
        """The new session is one that is led by the commands of the text; its transcript is compared line by line."""
        found = 0
        for seed in range(150):
            rng = random.Random(seed)
            names = NAMES[:1 + seed % 4]
            transcript = commanding.led_session(seed, names, 30).transcript()
            for _ in range(12):
                text = self.changed(rng, transcript)
                expected = Session(names)
                for line in lines_of(text):
                    if line.startswith("> "):
                        expected.run(line[2:].split("\n")[0])
                session, told = replay(text)
                self.assertEqual(told, difference(text, expected.transcript()), text)
                self.check_alike(expected, session)
                found += told is not None
        self.assertGreater(found, 1000)


if __name__ == "__main__":
    unittest.main()
