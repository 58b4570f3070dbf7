"""Leading worlds: steps of every kind, chosen by a seeded random source, and what they answer."""

from letterheld.errors import HeldError
from letterheld.office import Office
from letterheld.world import World

NAMES = ["ash", "bay", "cob", "zed"]
TOP = 1000000000
COMMANDS = ("create", "split", "join", "give", "use", "recall")


def outcome(action, *words):
    """What a call returns, or the class of the error of the program that it raises."""
    try:
        return "value", action(*words)
    except HeldError as error:
        return "error", error.__class__.__name__, getattr(error, "line", None)


def perform(world, step):
    """Carry out a step, which is a tuple of a word and arguments; its outcome."""
    word, *words = step
    if word == "lose":
        return outcome(world.net.take, *words)
    if word == "double":
        return outcome(world.net.double, *words)
    return outcome(getattr(world, word), *words)


def journals_of(world):
    return {name: world.office(name).journal() for name in world.names()}


def book_of(office):
    """All that an office tells of itself."""
    entries = [office.entry(thing) for thing in office.known()]
    return office.journal(), entries, office.known(), office.held(), office.pending(), office.payments(), office.credit()


def view_of(world):
    """All that a world tells of itself."""
    return {name: book_of(world.office(name)) for name in world.names()}, world.net.letters()


def sizes_for(rng, quantity):
    """Mostly sizes that sum to the quantity."""
    many = rng.choice([2, 2, 2, 3, 4])
    if quantity >= many and rng.random() < 0.9:
        cuts = sorted(rng.sample(range(1, min(quantity, 1000)), min(many - 1, min(quantity, 1000) - 1)))
        return [high - low for low, high in zip([0] + cuts, cuts + [quantity])]
    return [rng.choice([0, -1, 1, quantity, quantity - 1, TOP, TOP + 1]) for _ in range(rng.randrange(4))]


def quantity_for(rng):
    if rng.random() < 0.08:
        return rng.choice([0, -1, -TOP, TOP + 1, 2 * TOP])
    return rng.choice([1, 2, 3, 7, 40, 40, 100, 999999999, TOP])


def some_thing(rng, office, free):
    """A thing that an office can mostly act on."""
    held = [thing for thing in office.held() if free and not office.entry(thing)[6]]
    if held and rng.random() < 0.9:
        return rng.choice(held)
    return rng.choice(office.known() + ["ash-1", "bay-2", "cob-77"])


def some_things(rng, office):
    """Things that an office can mostly join."""
    held = [thing for thing in office.held() if not office.entry(thing)[6]]
    if len(held) > 1 and rng.random() < 0.95:
        home = office.entry(rng.choice(held))[1]
        alike = [thing for thing in held if office.entry(thing)[1] == home]
        chosen = alike if rng.random() < 0.9 else held
        if len(chosen) > 1:
            return rng.sample(chosen, rng.randrange(2, min(4, len(chosen)) + 1))
    return [rng.choice(office.known() + ["ash-1"]) for _ in range(rng.randrange(4))]


def able_office(rng, world):
    """Mostly an office that holds something that is not called back."""
    names = world.names()
    able = [name for name in names if any(not world.office(name).entry(thing)[6] for thing in world.office(name).held())]
    return rng.choice(able) if able and rng.random() < 0.9 else rng.choice(names)


def command_step(rng, world):
    """A command of an office; mostly it can be carried out."""
    names = world.names()
    word = rng.choice(("create", "create", "split", "join", "join", "give", "give", "give", "give", "use", "recall"))
    name = rng.choice(names) if word == "create" else able_office(rng, world)
    office = world.office(name)
    if rng.random() < 0.01:
        name = "nobody"
    if word == "create":
        return word, name, quantity_for(rng)
    if word == "join":
        return word, name, some_things(rng, office)
    if word == "recall":
        return word, name, some_thing(rng, office, rng.random() < 0.3)
    thing = some_thing(rng, office, True)
    if word == "split":
        entry = office.entry(thing)
        return word, name, thing, sizes_for(rng, entry[2] if entry else 5)
    if word == "give":
        others = [other for other in names if other != name]
        good = others if others and rng.random() < 0.95 else names + ["nobody", "", "Ash", "ash-1"]
        return word, name, thing, rng.choice(good)
    return word, name, thing


def place_in(rng, world):
    many = len(world.net.letters())
    return rng.randrange(many) if many and rng.random() < 0.97 else rng.choice([-1, many, many + 3])


def line_of(world, step):
    """The office that a command or a delivering changes, and what it would write behind its journal."""
    if step[0] == "deliver":
        letter = world.net.letters()[step[1]]
        name, action, words = letter[2], "receive", [letter]
    else:
        name, action, words = step[1], step[0], list(step[2:])
    before = world.office(name).journal()
    twin = Office(name, before)
    outcome(getattr(twin, action), *words)
    return name, twin.journal()[len(before):]


def torn_steps(world, step, signs):
    """The steps that are a cut while a command or a delivering writes its line."""
    name, line = line_of(world, step)
    lost = [("lose", step[1])] if step[0] == "deliver" else []
    return lost + [("cut", name, world.office(name).journal() + line[:signs])]


def next_steps(rng, world):
    """The next steps of a run: one, or the steps of a torn command."""
    draw = rng.random()
    quiet = not world.net.letters() and rng.random() < 0.95
    if draw < 0.42 or quiet and draw < 0.91:
        return [command_step(rng, world)]
    if draw < 0.80:
        return [("deliver", place_in(rng, world))]
    if draw < 0.86:
        return [("lose", place_in(rng, world))]
    if draw < 0.91:
        return [("double", place_in(rng, world))]
    if draw < 0.95:
        return [("tick", rng.choice(world.names() + ["nobody"]))]
    if draw < 0.97:
        name = rng.choice(world.names())
        return [("cut", name, world.office(name).journal() + rng.choice(["", "use as", "nonsense", " "]))]
    if draw < 0.975:
        return [("calm",)]
    step = ("deliver", 0) if world.net.letters() and rng.random() < 0.5 else command_step(rng, world)
    if step[0] != "deliver" and (step[1] not in world.names() or step[0] == "give" and step[3] not in world.names()):
        return [step]
    return torn_steps(world, step, rng.randrange(40))


def run(rng, names, many, lead=None):
    """Lead a world, and others beside it, for many steps; yields behind each step the step and the outcomes."""
    worlds = [World(names)] + ([lead(names)] if lead else [])
    while many > 0:
        for step in next_steps(rng, worlds[0]):
            many -= 1
            yield step, worlds, [perform(world, step) for world in worlds]


def world_after(rng, names, many):
    """A world that was led for many steps."""
    world = None
    for _, (world,), _ in run(rng, names, many):
        pass
    return world
