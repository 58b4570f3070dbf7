"""Rows and letters that the tests share, with the kinds of their words, and ways to spoil a text."""

GREATEST = 1000000000
LONG = "abcdefghijkz"
TOP = LONG + "-1000000000"

# For each kind, two values that are far apart, so that each sample has an ordinary and a greatest form.
VALUES = {
    "office": ("bay", LONG),
    "thing": ("ash-7", TOP),
    "number": (40, GREATEST),
}

LINE_KINDS = [
    ("register", ["thing", "number"]),
    ("give", ["thing", "number", "office"]),
    ("got", ["thing", "office", "number", "number", "office"]),
    ("use", ["thing"]),
    ("recall", ["thing"]),
    ("notice", ["thing", "office"]),
    ("receipt", ["thing", "number"]),
    ("noted", ["thing", "office"]),
    ("pay", ["thing", "office", "number"]),
    ("paid", ["thing", "number"]),
]
LINE_KINDS += [("split", ["thing"] + ["thing", "number"] * parts) for parts in range(2, 6)]
LINE_KINDS += [("join", ["thing"] * (1 + parts)) for parts in range(2, 7)]

LETTER_KINDS = [
    ("deed", ["office", "office", "thing", "office", "number", "number"]),
    ("receipt", ["office", "office", "thing", "number"]),
    ("notice", ["office", "office", "thing"]),
    ("noted", ["office", "office", "thing"]),
    ("claim", ["office", "office", "thing", "number"]),
    ("paid", ["office", "office", "thing", "number"]),
]

OFFICES = ["a", "z", "ash", "bay", LONG, "register", "paid"]
THINGS = ["a-1", "ash-9", "bay-10", "z-999999999", TOP]
NUMBERS = [1, 2, 9, 10, 999999999, GREATEST]
ORDINARY = {"office": OFFICES, "thing": THINGS, "number": NUMBERS}

NO_OFFICES = [
    "", LONG + "z", "Ash", "aSh", "ash1", "1", "0", "a_b", "a.b", "a\tb", "ash\n", "\nash", "\u00e4sh", "\u017fun",
    "\u0430sh", "+ash", "-ash", "0ash", "ash-", "ash-1", "40", "-",
]
NO_NUMBERS = [
    "", "0", "00", "01", "040", "1000000001", "9999999999", "10000000000", "9" * 5000, "-1", "+1", "-0", "1.0",
    "1e3", "1_000", "0x1", "1,000", "1\n", "\t1", "\u0663", "\u00b2", "\uff11", "4\u0660", "one", "bay", "ash-7", "True",
]
NO_THINGS = ["ash-" + word for word in NO_NUMBERS] + [word + "-7" for word in NO_OFFICES]
NO_THINGS += ["ash", "7", "", "-", "ash7", "ash--7", "ash-7-7", "ash-7-", "-ash-7", "ash_7", "7-ash", "ash- 7"]
WRONG = {"office": NO_OFFICES, "thing": NO_THINGS, "number": NO_NUMBERS}

NO_FIRST_WORDS = ["", "held", "Register", "USE", "uses", "us", "use\t", "\nuse", "use\n", "None", "1", "ash", "ash-1"]


def rows_of(table):
    """For each row of a table of kinds: ordinary, greatest, and each value of each kind at each place."""
    for word, kinds in table:
        yield word, kinds, (word, *(VALUES[kind][0] for kind in kinds))
        yield word, kinds, (word, *(VALUES[kind][1] for kind in kinds))
        for at, kind in enumerate(kinds):
            for value in ORDINARY[kind]:
                row = [word] + [VALUES[other][0] for other in kinds]
                row[at + 1] = value
                yield word, kinds, tuple(row)


def words_of(row):
    return [str(word) for word in row]


def spoilt(table):
    """Texts that are each one fault away from a text of the table, with what the fault is."""
    for word, kinds in table:
        for which in (0, 1):
            words = [word] + [str(VALUES[kind][which]) for kind in kinds]
            yield from spoilt_words(words, kinds)
            yield from spoilt_counts(words, kinds)
            yield from spoilt_spaces(words)


def spoilt_words(words, kinds):
    for at, kind in enumerate(kinds, start=1):
        for wrong in WRONG[kind]:
            yield "another word", " ".join(words[:at] + [wrong] + words[at + 1:])


def spoilt_counts(words, kinds):
    # A join of more than two things is still a join with one thing less or more.
    fixed = words[0] != "join"
    if fixed or len(kinds) == 3:
        for at in range(len(words)):
            yield "a word less", " ".join(words[:at] + words[at + 1:])
    for at in range(len(words) + 1):
        more = ["bay", "40"] + (["ash-7"] if fixed else [])
        for word in more:
            yield "a word more", " ".join(words[:at] + [word] + words[at:])


def spoilt_spaces(words):
    for at in range(1, len(words)):
        yield "a double space", " ".join(words[:at]) + "  " + " ".join(words[at:])
        for between in ("\t", "\n", "\u00a0", ""):
            yield "no space", " ".join(words[:at]) + between + " ".join(words[at:])
    text = " ".join(words)
    for sign in (" ", "\n", "\t", "\r", "\r\n"):
        yield "a space at the beginning", sign + text
        yield "a space at the end", text + sign


def spoilt_first_words(table, others):
    """Each row of a table with another first word."""
    for _, kinds in table:
        for other in NO_FIRST_WORDS + others:
            yield "another first word", " ".join([other] + [str(VALUES[kind][0]) for kind in kinds])


SMALL_JOURNAL = [
    ("register", "ash-1", 7),
    ("split", "ash-1", "ash-2", 3, "ash-3", 4),
    ("join", "ash-4", "ash-2", "ash-3"),
    ("give", "ash-4", 2, "bay"),
    ("receipt", "ash-4", 2),
    ("got", "bay-12", "bay", 1000000000, 31, "cob"),
    ("use", "bay-12"),
    ("paid", "bay-12", 1000000000),
    ("pay", "ash-4", "bay", 7),
    ("recall", "ash-4"),
    ("notice", "cob-5", "cob"),
    ("noted", "ash-4", "bay"),
]
