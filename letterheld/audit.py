"""The audit: what became of each thing, and the faults of journals, whoever wrote them."""

from letterheld.errors import UnknownThing
from letterheld.ledger import UNDER_WAY, Ledger, ascending, closure
from letterheld.notation import maker_of
from letterheld.reading import read_journals, reading_of


def ledger_with(journals, thing):
    """Return the ledger of journals. Raises UnknownThing if no line made the thing."""
    ledger = Ledger(read_journals(journals))
    if not ledger.has(thing):
        raise UnknownThing(f"no line made {thing}")
    return ledger


def history(journals, thing):
    """Return the history of a thing, a list of tuples (epoch, office, sender, end). Raises UnknownThing."""
    return list(ledger_with(journals, thing).histories[thing])


def parts(journals, thing):
    """Return the things that a thing came of, and those that came of it, in ascending order. Raises UnknownThing."""
    ledger = ledger_with(journals, thing)
    return closure(ledger.sources, thing), closure(ledger.products, thing)


def holders(journals):
    """Return a dict from all things, in ascending order, to tuples (end, office, epoch) of their last rows."""
    found = {}
    for thing, rows in Ledger(read_journals(journals)).histories.items():
        epoch, office, _, end = rows[-1]
        found[thing] = (end, office, epoch)
    return found


def claim_state(readings, entry):
    """Return how far the payment of a used thing has come."""
    if entry.credited:
        return "credited"
    if entry.thing in reading_of(readings, entry.home).book.outlays:
        return "paid"
    return "open"


def claim_order(claim):
    """Return by what a claim stands among the others: its thing."""
    return maker_of(claim[0])


def claims(journals):
    """Return tuples (id, office, home, quantity, state) for all used things, in ascending order."""
    readings = read_journals(journals)
    found = []
    for reading in readings.values():
        for entry in reading.book.entries.values():
            if entry.state == "used":
                state = claim_state(readings, entry)
                found.append((entry.thing, reading.name, entry.home, entry.quantity, state))
    return sorted(found, key=claim_order)


def called_back(journals):
    """Return a dict from all things whose call-back an office knows of to the lists of these offices' names."""
    found = {}
    for reading in read_journals(journals).values():
        for thing, entry in reading.book.entries.items():
            if entry.recalled:
                found.setdefault(thing, []).append(reading.name)
    return {thing: found[thing] for thing in ascending(found)}


def totals(journals):
    """Return the sums of the quantities of what was registered, of what was used, and of all that is left."""
    readings = read_journals(journals)
    registered = 0
    for reading in readings.values():
        registered += sum([row[2] for _, row in reading.lines if row[0] == "register"])
    used = sum([claim[3] for claim in claims(journals)])
    ledger = Ledger(readings)
    left = 0
    for thing, rows in ledger.histories.items():
        if rows[-1][3] == "held" or rows[-1][3] == UNDER_WAY:
            left += ledger.quantities[thing]
    return registered, used, left


def got_fault(readings, reading, row):
    _, thing, home, quantity, epoch, sender = row
    other = reading_of(readings, sender)
    entry = other.book.entry(thing)
    # The home and the quantity of a thing that an office had stay in its book as they were.
    if other.gave(thing, epoch, reading.name) and entry.home == home and entry.quantity == quantity:
        return None
    return "deed"


def receipt_fault(readings, reading, row):
    _, thing, epoch = row
    receiver = reading.receivers[(thing, epoch)]
    return None if reading_of(readings, receiver).got(thing, epoch, reading.name) else "receipt"


def recall_fault(readings, reading, row):
    # Of "notice" and of "noted".
    word, thing, office = row
    return None if reading_of(readings, office).called_back(thing) else word


def pay_fault(readings, reading, row):
    _, thing, office, quantity = row
    return None if reading_of(readings, office).used(thing, reading.name, quantity) else "pay"


def paid_fault(readings, reading, row):
    _, thing, quantity = row
    home = reading_of(readings, reading.book.entry(thing).home)
    return None if home.paid(thing, reading.name, quantity) else "paid"


# The lines that depend on what another office wrote; all others have no fault if they fit.
FAULTS = {
    "got": got_fault,
    "receipt": receipt_fault,
    "notice": recall_fault,
    "noted": recall_fault,
    "pay": pay_fault,
    "paid": paid_fault,
}


def faults_of(readings, reading):
    """Return the faults of one journal: tuples (number of the line, fault), in ascending order."""
    found = [(number, "book") for number in reading.misfits]
    for number, row in reading.lines:
        if row[0] in FAULTS:
            judge = FAULTS[row[0]]
            fault = judge(readings, reading, row)
            if fault is not None:
                found.append((number, fault))
    return sorted(found)


def faults(journals):
    """Return the faults of journals: tuples (office, number of the line, fault), in ascending order."""
    readings = read_journals(journals)
    found = []
    for name, reading in readings.items():
        found.extend([(name, number, fault) for number, fault in faults_of(readings, reading)])
    return found
