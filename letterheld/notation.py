"""How names, ids, lines, journals and letters are written."""

from letterheld.errors import InvalidLetter, InvalidLine

GREATEST = 1000000000
LONGEST_NAME = 12

# The kinds of the words behind the first one. The lines "split" and "join",
# which have any number of words, are in `line_kinds`. A "place" is a number or 0.
LINES = {
    "register": ("thing", "number"),
    "give": ("thing", "number", "office"),
    "got": ("thing", "office", "number", "number", "office"),
    "use": ("thing",),
    "recall": ("thing",),
    "notice": ("thing", "office"),
    "receipt": ("thing", "number"),
    "noted": ("thing", "office"),
    "pay": ("thing", "office", "number"),
    "paid": ("thing", "number"),
}
LETTERS = {
    "deed": ("office", "office", "thing", "office", "number", "number"),
    "receipt": ("office", "office", "thing", "number"),
    "notice": ("office", "office", "thing"),
    "noted": ("office", "office", "thing"),
    "claim": ("office", "office", "thing", "number"),
    "paid": ("office", "office", "thing", "number"),
}


def is_office(text):
    """Tell whether a text is the name of an office."""
    if not isinstance(text, str) or len(text) > LONGEST_NAME:
        return False
    # isalpha and islower alone would let letters beyond a to z pass.
    return text.isascii() and text.isalpha() and text.islower()


def is_quantity(worth):
    """Tell whether a value is a quantity."""
    # Python counts True and False among the integers.
    if not isinstance(worth, int) or isinstance(worth, bool):
        return False
    return 1 <= worth <= GREATEST


def is_number(text):
    """Tell whether a text is a number as it is written."""
    # The length is asked first: Python refuses to read a number of thousands of digits.
    if len(text) > len(str(GREATEST)) or text.startswith("0"):
        return False
    return text.isascii() and text.isdecimal() and int(text) <= GREATEST


def is_thing(text):
    """Tell whether a text is the id of a thing."""
    office, _, number = text.partition("-")
    return is_office(office) and is_number(number)


def id_of(office, number):
    """Return the id of the thing that an office made under a number."""
    return f"{office}-{number}"


def maker_of(thing):
    """Return the office that made a thing, and its number, as a tuple."""
    office, _, number = thing.partition("-")
    return (office, int(number))


def read_word(kind, word):
    """Return what a word stands for, or None if it is not of this kind."""
    if kind == "place" and word == "0":
        return 0
    if kind == "number" or kind == "place":
        return int(word) if is_number(word) else None
    if kind == "thing":
        return word if is_thing(word) else None
    return word if is_office(word) else None


def read_words(kinds, words):
    """Return the tuple of words whose kinds, behind the first word, are these, or None."""
    if kinds is None or len(words) != len(kinds) + 1:
        return None
    row = [words[0]]
    for kind, word in zip(kinds, words[1:]):
        worth = read_word(kind, word)
        if worth is None:
            return None
        row.append(worth)
    return tuple(row)


def line_kinds(words):
    """Return the kinds that the words behind the first one must have, or None if no line begins so."""
    # At least two parts or things are asked for, so that a line with fewer is too short.
    if words[0] == "split":
        return ("thing",) + ("thing", "number") * max(2, (len(words) - 2) // 2)
    if words[0] == "join":
        return ("thing",) * max(3, len(words) - 1)
    return LINES.get(words[0])


def read_line(line):
    """Return the tuple of a line, or None if it is invalid."""
    words = line.split(" ")
    return read_words(line_kinds(words), words)


def write_words(row):
    """Return the words of a tuple with one space between them."""
    return " ".join([str(word) for word in row])


def is_line(row):
    """Tell whether a tuple is a line, so that a journal that has it can be read again."""
    return read_line(write_words(row)) == row


def format_line(row):
    """Return the line of a tuple, without a newline."""
    return write_words(row)


def parse_line(line):
    """Return the tuple of a line without its newline. Raises InvalidLine."""
    row = read_line(line)
    if row is None:
        raise InvalidLine(1)
    return row


def format_journal(rows):
    """Return the journal of a list of tuples."""
    return "".join([format_line(row) + "\n" for row in rows])


def parse_journal(text):
    """Return the list of the tuples of all whole lines. Raises InvalidLine for the first invalid one."""
    # What stands behind the last newline was not written to its end.
    whole = text.split("\n")[:-1]
    rows = []
    for number, line in enumerate(whole, start=1):
        row = read_line(line)
        if row is None:
            raise InvalidLine(number)
        rows.append(row)
    return rows


def format_letter(letter):
    """Return the text of a letter."""
    return write_words(letter)


def parse_letter(text):
    """Return the letter of a text. Raises InvalidLetter."""
    words = text.split(" ")
    letter = read_words(LETTERS.get(words[0]), words)
    if letter is None:
        raise InvalidLetter("the text is not a letter")
    return letter
