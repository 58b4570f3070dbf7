"""Commands of sessions for the steps of worlds, and the lines that answer them, written from the document alone."""

import random

from letterheld import audit
from letterheld.session import Session
from letterheld.world import World
from tests import leading
from tests.leading import journals_of, perform

WORDS = {"create": "register"}
LISTENING = ["letters", "holders", "claims", "recalls", "audit"]
ODD = ["", " ", "calm ", "give ash ash-1", "use  ash ash-1", "Tick ash", "deliver 00", "torn 3 calm", "> calm", "session ash"]


def command_of(step):
    """The command for a step of a world, or None for a cut with a text of its own."""
    word, *words = step
    if word == "cut":
        return None
    flat = []
    for part in words:
        flat += part if isinstance(part, list) else [part]
    return " ".join([WORDS.get(word, word)] + [str(part) for part in flat])


def is_command(step):
    """Whether a step can be written as a command at all; the others are answered by InvalidCommand."""
    word, *words = step
    if word in ("deliver", "lose", "double"):
        return words[0] >= 0
    if word == "create":
        return 1 <= words[1] <= leading.TOP
    if word == "split":
        return len(words[2]) > 0 and all(1 <= size <= leading.TOP for size in words[2])
    if word == "join":
        return len(words[1]) > 0
    if word == "give":
        return words[2] in leading.NAMES or words[2] == "nobody"
    return True


def text(part):
    return {None: "-", True: "yes", False: "no"}[part] if part is None or isinstance(part, bool) else str(part)


def line(*parts):
    return " ".join(text(part) for part in parts)


def told(step, result):
    """The lines that answer the command for a step with this outcome."""
    if result[0] == "error":
        return ["error " + result[1]]
    word, worth = step[0], result[1]
    if word in ("create", "join"):
        return [worth]
    if word == "split":
        return [line(*worth)]
    if word in ("deliver", "lose"):
        return [line(*worth)]
    return [line("rounds", worth)] if word == "calm" else ["ok"]


def listed(world, command):
    """The lines of the commands that change nothing."""
    journals = journals_of(world)
    word, *words = command.split(" ")
    if word == "letters":
        return [line(*letter) for letter in world.net.letters()]
    if word == "journal":
        return journals[words[0]].split("\n")[:-1]
    if word == "book":
        office = world.office(words[0])
        lines = [line(*office.entry(thing)) for thing in office.known()]
        return lines + [line("paid", *payment) for payment in office.payments()] + [line("credit", office.credit())]
    if word == "holders":
        return [line(thing, *row) for thing, row in audit.holders(journals).items()]
    if word == "history":
        return [line(*row) for row in audit.history(journals, words[0])]
    if word == "claims":
        return [line(*claim) for claim in audit.claims(journals)]
    if word == "parts":
        sources, products = audit.parts(journals, words[0])
        return [line("of", *sources), line("into", *products)]
    if word == "recalls":
        return [line(thing, *names) for thing, names in audit.called_back(journals).items()]
    return [line("totals", *audit.totals(journals))] + [line(*fault) for fault in audit.faults(journals)]


def listening(rng, world):
    """A command that changes nothing."""
    things = list(audit.holders(journals_of(world)))
    name = rng.choice(world.names())
    some = LISTENING + ["journal " + name, "book " + name]
    if things:
        some += [word + " " + rng.choice(things) for word in ("history", "parts")]
    return rng.choice(some)


def torn_command(rng, world):
    """A torn command, its answer, and the steps that do the same to a world."""
    many = len(world.net.letters())
    step = leading.command_step(rng, world)
    if many and rng.random() < 0.6 or rng.random() < 0.05:
        step = ("deliver", rng.randrange(many + 1))
    signs = rng.choice([0, 1, rng.randrange(40), 1000, leading.TOP])
    command = f"torn {signs} {command_of(step)}"
    if not is_command(step):
        return command, ["error InvalidCommand"], []
    # The error is told by a world that is otherwise left alone.
    copy = World(world.names())
    for name in world.names():
        copy.cut(name, world.office(name).journal())
    for letter in world.net.letters():
        copy.net.send(letter)
    result = perform(copy, step)
    if result[0] == "error":
        return command, ["error " + result[1]], []
    return command, ["ok"], leading.torn_steps(world, step, signs)


def next_command(rng, world):
    """A command, the lines of its answer, and it is done to the world."""
    draw = rng.random()
    if draw < 0.15:
        command = listening(rng, world)
        return command, listed(world, command)
    if draw < 0.18:
        return rng.choice(ODD), ["error InvalidCommand"]
    if draw < 0.21:
        name = rng.choice(world.names())
        perform(world, ("cut", name, world.office(name).journal()))
        return "cut " + name, ["ok"]
    if draw < 0.30:
        command, answer, steps = torn_command(rng, world)
        for step in steps:
            perform(world, step)
        return command, answer
    step = leading.next_steps(rng, world)[0]
    while step[0] == "cut":
        step = leading.next_steps(rng, world)[0]
    if not is_command(step):
        return command_of(step), ["error InvalidCommand"]
    return command_of(step), told(step, perform(world, step))


def commands(rng, names, many):
    """A world that is led by commands: yields each command, the lines that answer it, and the world behind it."""
    world = World(names)
    for _ in range(many):
        command, answer = next_command(rng, world)
        yield command, answer, world


def led_session(seed, names, many):
    """A session that was led by many commands."""
    session = Session(names)
    for command, _, _ in commands(random.Random(seed), names, many):
        session.run(command)
    return session
