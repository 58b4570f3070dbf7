"""Sessions: a world that is led by commands, and the replaying of transcripts."""

from letterheld.actions import carry_out, journals_of
from letterheld.commands import parse_command
from letterheld.errors import HeldError, InvalidCommand
from letterheld.notation import is_office
from letterheld.world import World

HEAD = "session"
PROMPT = "> "


class Session:
    """A session of a new world, which is the field `world`."""

    def __init__(self, names):
        self.world = World(names)
        self._lines = [" ".join([HEAD] + self.world.names())]

    def run(self, command):
        """Carry out a command and return the list of the lines of its answer."""
        answer = self._answer(command)
        self._lines.append(PROMPT + command)
        self._lines.extend(answer)
        return answer

    def transcript(self):
        """Return the first line, the commands and their answers."""
        return "".join([line + "\n" for line in self._lines])

    def journals(self):
        """Return a dict from the names of the offices to their journals."""
        return journals_of(self.world)

    def _answer(self, command):
        try:
            return carry_out(self.world, parse_command(command))
        except HeldError as error:
            return [error_line(error)]


def error_line(error):
    """Return the answer to a command that raised an error."""
    return "error " + error.__class__.__name__


def lines_of(text):
    """Return the lines of a text, with their newlines; the last one can be without."""
    pieces = text.split("\n")
    lines = [piece + "\n" for piece in pieces[:-1]]
    if pieces[-1]:
        lines.append(pieces[-1])
    return lines


def names_of(line):
    """Return the names in the first line of a transcript. Raises InvalidCommand if it is none."""
    head, *names = line.removesuffix("\n").split(" ")
    if head != HEAD or not names:
        raise InvalidCommand("a transcript begins with `session` and names")
    # Each name behind a lower one, so that none stands twice.
    if not all([is_office(name) for name in names]) or names != sorted(set(names)):
        raise InvalidCommand("the names of offices stand in ascending order, none twice")
    return names


def first_difference(some, others):
    """Return the number, from 1, of the first line at which two lists of lines differ, or None."""
    for number, (line, other) in enumerate(zip(some, others), start=1):
        if line != other:
            return number
    if len(some) == len(others):
        return None
    return min(len(some), len(others)) + 1


def replay(text):
    """Return a new session led by the commands of a transcript, and the number of the first line that differs."""
    lines = lines_of(text)
    session = Session(names_of("".join(lines[:1])))
    for line in lines:
        if line.startswith(PROMPT):
            session.run(line.removeprefix(PROMPT).removesuffix("\n"))
    return session, first_difference(lines, lines_of(session.transcript()))
