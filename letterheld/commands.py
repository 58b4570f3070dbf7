"""How the commands of a session are written."""

from letterheld.errors import InvalidCommand
from letterheld.notation import read_word, read_words

# The kinds of the words behind the first one. The commands "split" and "join",
# which have any number of words, are in `command_kinds`, and "torn" is in `parse_torn`.
COMMANDS = {
    "register": ("office", "number"),
    "give": ("office", "thing", "office"),
    "use": ("office", "thing"),
    "recall": ("office", "thing"),
    "tick": ("office",),
    "deliver": ("place",),
    "lose": ("place",),
    "double": ("place",),
    "cut": ("office",),
    "calm": (),
    "letters": (),
    "journal": ("office",),
    "book": ("office",),
    "holders": (),
    "history": ("thing",),
    "claims": (),
    "parts": ("thing",),
    "recalls": (),
    "audit": (),
}
TEARABLE = ("register", "give", "split", "join", "use", "recall", "deliver")


def command_kinds(words):
    """Return the kinds that the words behind the first one must have, or None if no command begins so."""
    # At least one size or thing is asked for, so that a command without one is too short.
    if words[0] == "split":
        return ("office", "thing") + ("number",) * max(1, len(words) - 3)
    if words[0] == "join":
        return ("office",) + ("thing",) * max(1, len(words) - 2)
    return COMMANDS.get(words[0])


def parse_words(words):
    """Return the tuple of the words of a command that is not "torn". Raises InvalidCommand."""
    row = read_words(command_kinds(words), words)
    if row is None:
        raise InvalidCommand("the text is not a command")
    return row


def parse_torn(words):
    """Return the tuple of "torn", the number of signs, and the tuple of the command. Raises InvalidCommand."""
    if len(words) < 3 or words[2] not in TEARABLE:
        raise InvalidCommand("the text is not a command that can be torn")
    signs = read_word("place", words[1])
    if signs is None:
        raise InvalidCommand("the number of signs is not a number")
    return ("torn", signs, parse_words(words[2:]))


def parse_command(text):
    """Return the tuple of a command. Raises InvalidCommand."""
    words = text.split(" ")
    if words[0] == "torn":
        return parse_torn(words)
    return parse_words(words)
