"""What the commands of a session do with its world, and the lines of their answers."""

from letterheld.audit import called_back, claims, faults, history, holders, parts, totals
from letterheld.notation import format_letter
from letterheld.world import World

DONE = "ok"


def journals_of(world):
    """Return a dict from the names of the offices to their journals."""
    return {name: world.office(name).journal() for name in world.names()}


def twin_of(world):
    """Return another world that is now as this one is."""
    twin = World(world.names())
    for name in world.names():
        twin.cut(name, world.office(name).journal())
    for letter in world.net.letters():
        twin.net.send(letter)
    return twin


def format_part(part):
    """Return how a part of a line is written."""
    if part is None:
        return "-"
    if part is True:
        return "yes"
    if part is False:
        return "no"
    return str(part)


def format_parts(row):
    """Return the parts of a line with spaces between them."""
    return " ".join([format_part(part) for part in row])


def do_register(world, row):
    _, name, quantity = row
    return [world.create(name, quantity)]


def do_split(world, row):
    _, name, thing, *sizes = row
    return [format_parts(world.split(name, thing, sizes))]


def do_join(world, row):
    _, name, *things = row
    return [world.join(name, things)]


def do_give(world, row):
    _, name, thing, receiver = row
    world.give(name, thing, receiver)
    return [DONE]


def do_use(world, row):
    world.use(row[1], row[2])
    return [DONE]


def do_recall(world, row):
    world.recall(row[1], row[2])
    return [DONE]


def do_tick(world, row):
    world.tick(row[1])
    return [DONE]


def do_deliver(world, row):
    return [format_letter(world.deliver(row[1]))]


def do_lose(world, row):
    return [format_letter(world.net.take(row[1]))]


def do_double(world, row):
    world.net.double(row[1])
    return [DONE]


def do_cut(world, row):
    world.cut(row[1], world.office(row[1]).journal())
    return [DONE]


def do_calm(world, _):
    return [f"rounds {world.calm()}"]


def do_letters(world, _):
    return [format_letter(letter) for letter in world.net.letters()]


def do_journal(world, row):
    # Behind the last newline stands nothing.
    return world.office(row[1]).journal().split("\n")[:-1]


def do_book(world, row):
    office = world.office(row[1])
    lines = [format_parts(office.entry(thing)) for thing in office.known()]
    lines.extend([format_parts(("paid",) + payment) for payment in office.payments()])
    return lines + [f"credit {office.credit()}"]


def do_holders(world, _):
    found = holders(journals_of(world))
    return [format_parts((thing,) + found[thing]) for thing in found]


def do_history(world, row):
    return [format_parts(held) for held in history(journals_of(world), row[1])]


def do_claims(world, _):
    return [format_parts(claim) for claim in claims(journals_of(world))]


def do_parts(world, row):
    sources, products = parts(journals_of(world), row[1])
    return [format_parts(["of"] + sources), format_parts(["into"] + products)]


def do_recalls(world, _):
    found = called_back(journals_of(world))
    return [format_parts([thing] + found[thing]) for thing in found]


def do_audit(world, _):
    journals = journals_of(world)
    lines = [format_parts(("totals",) + totals(journals))]
    return lines + [format_parts(fault) for fault in faults(journals)]


def do_torn(world, row):
    _, signs, torn = row
    # The twin tells what the command would write, and raises its error.
    twin = twin_of(world)
    carry_out(twin, torn)
    name = world.net.letters()[torn[1]][2] if torn[0] == "deliver" else torn[1]
    journal = world.office(name).journal()
    written = twin.office(name).journal()[len(journal):]
    if torn[0] == "deliver":
        world.net.take(torn[1])
    world.cut(name, journal + written[:signs])
    return [DONE]


ACTIONS = {
    "register": do_register,
    "split": do_split,
    "join": do_join,
    "give": do_give,
    "use": do_use,
    "recall": do_recall,
    "tick": do_tick,
    "deliver": do_deliver,
    "lose": do_lose,
    "double": do_double,
    "cut": do_cut,
    "torn": do_torn,
    "calm": do_calm,
    "letters": do_letters,
    "journal": do_journal,
    "book": do_book,
    "holders": do_holders,
    "history": do_history,
    "claims": do_claims,
    "parts": do_parts,
    "recalls": do_recalls,
    "audit": do_audit,
}


def carry_out(world, row):
    """Carry out a command and return the lines of its answer."""
    action = ACTIONS[row[0]]
    return action(world, row)
