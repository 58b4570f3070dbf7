"""What became of each thing, as the journals of all offices together tell it."""

from letterheld.notation import maker_of
from letterheld.reading import reading_of

UNDER_WAY = "under way"


def ascending(things):
    """Return the list of things in ascending order of their makers' names and their numbers."""
    return sorted(things, key=maker_of)


def made_by(row):
    """Return the things that a line makes, each with the things that it is made of."""
    if row[0] == "register":
        return [(row[1], [])]
    if row[0] == "split":
        return [(part, [row[1]]) for part in row[2::2]]
    if row[0] == "join":
        return [(row[1], list(row[2:]))]
    return []


def begun_by(row):
    """Return the holdings that begin with a line: the thing, its epoch and the office that gave it."""
    if row[0] == "got":
        return [(row[1], row[4], row[5])]
    return [(thing, 1, None) for thing, _ in made_by(row)]


def ended_by(row):
    """Return the things whose holding ends with a line, each with how it ends."""
    if row[0] == "give":
        return [(row[1], "given")]
    if row[0] == "use":
        return [(row[1], "used")]
    if row[0] == "split":
        return [(row[1], "split")]
    if row[0] == "join":
        return [(thing, "joined") for thing in row[2:]]
    return []


def holdings(reading):
    """Return what one office held: for each holding the thing, and its row of the thing's history."""
    begun = {}
    found = []
    for _, row in reading.lines:
        for thing, end in ended_by(row):
            epoch, sender = begun.pop(thing)
            found.append((thing, (epoch, reading.name, sender, end)))
        for thing, epoch, sender in begun_by(row):
            begun[thing] = (epoch, sender)
    for thing, (epoch, sender) in begun.items():
        found.append((thing, (epoch, reading.name, sender, "held")))
    return found


def under_way(readings, reading):
    """Return what one office gave and the receivers have not got, as `holdings` does."""
    found = []
    for (thing, epoch), receiver in reading.receivers.items():
        if not reading_of(readings, receiver).got(thing, epoch, reading.name):
            found.append((thing, (epoch, receiver, reading.name, UNDER_WAY)))
    return found


def closure(ways, thing):
    """Return all things to which the ways of a dict lead from a thing, in ascending order."""
    found = {}
    waiting = [thing]
    while waiting:
        source = waiting.pop()
        for other in ways.get(source, []):
            if other not in found:
                found[other] = True
                waiting.append(other)
    return ascending(found)


def epoch_of(row):
    """Return the epoch of a row of a history."""
    return row[0]


class Ledger:
    """All things that were made, with their quantities, what they were made of, and their histories."""

    def __init__(self, readings):
        self.quantities = {}
        # From each thing to those that it was made of, and to those that were made of it.
        self.sources = {}
        self.products = {}
        for reading in readings.values():
            self._keep_made(reading)
        rows = {thing: [] for thing in self.quantities}
        for reading in readings.values():
            for thing, row in holdings(reading) + under_way(readings, reading):
                # A thing that was got and never made has no history: such journals are at fault.
                if thing in rows:
                    rows[thing].append(row)
        self.histories = {thing: sorted(rows[thing], key=epoch_of) for thing in ascending(rows)}

    def _keep_made(self, reading):
        for _, row in reading.lines:
            for thing, sources in made_by(row):
                self.quantities[thing] = reading.book.entry(thing).quantity
                self.sources[thing] = sources
                for source in sources:
                    self.products.setdefault(source, []).append(thing)

    def has(self, thing):
        """Tell whether a line made the thing."""
        return thing in self.quantities
