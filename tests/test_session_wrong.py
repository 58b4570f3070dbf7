"""Texts that are no commands, and the errors of the program in a session (points 7.1 to 7.4)."""

import unittest

from letterheld.session import Session
from tests import samples
from tests.leading import view_of

TOP = 1000000000

# Each command with the kinds of its words; "more" says that the last kind stands any number of times.
FORMS = [
    ("register", ["office", "number"], False),
    ("split", ["office", "thing", "number"], True),
    ("join", ["office", "thing"], True),
    ("give", ["office", "thing", "office"], False),
    ("use", ["office", "thing"], False),
    ("recall", ["office", "thing"], False),
    ("tick", ["office"], False),
    ("deliver", ["place"], False),
    ("lose", ["place"], False),
    ("double", ["place"], False),
    ("cut", ["office"], False),
    ("calm", [], False),
    ("letters", [], False),
    ("journal", ["office"], False),
    ("book", ["office"], False),
    ("holders", [], False),
    ("history", ["thing"], False),
    ("claims", [], False),
    ("parts", ["thing"], False),
    ("recalls", [], False),
    ("audit", [], False),
]
TEARABLE = ["register", "give", "split", "join", "use", "recall", "deliver"]
GOOD = {"office": "ash", "thing": "ash-2", "number": "5", "place": "0"}
WRONG = {
    "office": samples.NO_OFFICES,
    "thing": samples.NO_THINGS,
    "number": samples.NO_NUMBERS,
    "place": [word for word in samples.NO_NUMBERS if word != "0"],
}


def words_of(word, kinds):
    return [word] + [GOOD[kind] for kind in kinds]


class WrongTest(unittest.TestCase):
    def setUp(self):
        self.session = Session(["ash", "bay"])
        for command in ("register ash 40", "split ash ash-1 15 25", "give ash ash-3 bay", "register bay 7", "use bay bay-1"):
            self.session.run(command)

    def check_error(self, command, name="InvalidCommand"):
        """It is answered by the error, changes nothing, and stands in the transcript."""
        before, transcript = view_of(self.session.world), self.session.transcript()
        self.assertEqual(self.session.run(command), ["error " + name], repr(command)[:80])
        self.assertEqual(view_of(self.session.world), before)
        self.assertEqual(self.session.transcript(), transcript + "> " + command + "\nerror " + name + "\n")

    def check_command(self, command):
        """It is a command, whatever else it is answered by."""
        self.assertNotEqual(self.session.run(command)[:1], ["error InvalidCommand"], command)

    def test_good_ones(self):
        for word, kinds, _ in FORMS:
            self.setUp()
            self.check_command(" ".join(words_of(word, kinds)))
            if word in TEARABLE:
                self.setUp()
                self.check_command("torn 5 " + " ".join(words_of(word, kinds)))
        self.setUp()
        for command in ("split ash ash-2 1 2 3 4 5", "join ash ash-2 ash-3 ash-4 ash-2", "deliver 1000000000", "register ash 1000000000",
                        "torn 0 use ash ash-2", "torn 1000000000 use ash ash-9", "history zed-1000000000",
                        "journal abcdefghijkl", "give zed ash-2 zed"):
            self.check_command(command)

    def test_words_of_another_kind(self):
        for word, kinds, _ in FORMS:
            words = words_of(word, kinds)
            for at, kind in enumerate(kinds, start=1):
                for wrong in WRONG[kind]:
                    command = " ".join(words[:at] + [wrong] + words[at + 1:])
                    self.check_error(command)
                    if word in TEARABLE:
                        self.check_error("torn 3 " + command)

    def test_words_too_many_or_too_few(self):
        for word, kinds, more in FORMS:
            words = words_of(word, kinds)
            for at in range(1, len(words)):
                self.check_error(" ".join(words[:at]))
            for extra in ("ash", "ash-2", "5", "0", "-"):
                if not (more and extra == GOOD[kinds[-1]]):
                    self.check_error(" ".join(words + [extra]))
                    self.check_error(" ".join(words + [extra, extra]))

    def test_wrong_word_behind_many(self):
        for command in ("split ash ash-2 1 2 0", "split ash ash-2 1 02 3", "split ash ash-2 1 2 ash-2", "split ash ash-2 1 1000000001",
                        "split ash ash-2 -1 16", "join ash ash-2 ash-3 5", "join ash ash-2 ash-03", "join ash ash-2 bay"):
            self.check_error(command)
            self.check_error("torn 0 " + command)

    def test_spaces(self):
        for word, kinds, _ in FORMS:
            words = words_of(word, kinds)
            texts = [" ".join(words)]
            if word in TEARABLE:
                texts.append("torn 3 " + texts[0])
            for text in texts:
                for sign in (" ", "\n", "\t", "\r"):
                    self.check_error(sign + text)
                    self.check_error(text + sign)
                parts = text.split(" ")
                for at in range(1, len(parts)):
                    for between in ("  ", "\t", "\n", ""):
                        self.check_error(" ".join(parts[:at]) + between + " ".join(parts[at:]))

    def test_unknown_words(self):
        for word in ("", "Register", "REGISTER", "create", "registers", "regist", "got", "pay", "notice", "deed", "claim", "paid",
                     "session", ">", "> calm", "help", "ash", "ash-1", "5", "-", "held", "recalled", "history_", "torn"):
            for rest in ([], ["ash"], ["ash", "5"], ["ash", "ash-2"], ["0"], ["ash-2"], ["ash", "ash-2", "bay"]):
                self.check_error(" ".join([word] + rest))

    def test_torn(self):
        for word, kinds, _ in FORMS:
            if word not in TEARABLE:
                self.check_error("torn 5 " + " ".join(words_of(word, kinds)))
        for signs in WRONG["place"] + ["ash", "ash-1"]:
            self.check_error(f"torn {signs} use ash ash-2")
        for command in ("torn", "torn ", "torn 5", "torn 5 ", "torn use ash ash-2", "torn 5 use", "torn 5 5 use ash ash-2",
                        "torn 5 torn 5 use ash ash-2", "torn 5 nonsense", "torn 5 use ash ash-2 ash-2", "torn 1000000001 use ash ash-2",
                        "torn -1 use ash ash-2", "torn 05 use ash ash-2", "torn 00 use ash ash-2", "Torn 5 use ash ash-2",
                        "torn 5 register ash 0", "torn 5 split ash ash-2", "torn 5 join ash", "torn 5 deliver 00"):
            self.check_error(command)

    def test_errors_of_the_program(self):
        for command in ("register zed 5", "give zed ash-2 bay", "give ash ash-2 zed", "give ash ash-9 zed", "give ash ash-2 ash",
                        "use zed ash-2", "recall zed ash-2", "split zed ash-2 1 14", "join zed ash-2", "tick zed", "cut zed",
                        "journal zed", "book zed"):
            self.check_error(command, "InvalidOffice")
        for command in ("give ash ash-1 bay", "give ash ash-3 bay", "give ash ash-9 bay", "use bay bay-1", "use bay ash-3",
                        "split ash ash-1 15 25", "join ash ash-2 ash-3", "join ash ash-9"):
            self.check_error(command, "NotHeld")
        for command in ("split ash ash-2 15", "split ash ash-2 7 7", "split ash ash-2 8 8"):
            self.check_error(command, "InvalidQuantity")
        for command in ("join ash ash-2", "join ash ash-2 ash-2"):
            self.check_error(command, "InvalidThings")
        for command in ("recall bay ash-3", "recall ash bay-1", "history ash-4", "history bay-2", "parts ash-4", "parts zed-1"):
            self.check_error(command, "UnknownThing")
        for command in ("deliver 2", "lose 2", "double 2", "deliver 1000000000"):
            self.check_error(command, "NoLetter")
        self.session.run("recall ash ash-2")
        for command in ("give ash ash-2 bay", "use ash ash-2", "recall ash ash-2", "split ash ash-2 5 10", "join ash ash-2"):
            self.check_error(command, "Frozen")

    def test_a_join_of_two_homes_and_a_sum_too_great(self):
        for command in ("deliver 0", "register bay 1000000000", "register bay 1"):
            self.session.run(command)
        self.check_error("join bay ash-3 bay-3", "InvalidThings")
        self.check_error("join bay bay-2 bay-3", "InvalidQuantity")


if __name__ == "__main__":
    unittest.main()
