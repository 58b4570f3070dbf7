"""Whether a line of a journal fits the book of the lines ahead of it.

A line has its form already: there are at least two parts or two things, and all numbers are within their limits.
"""

from letterheld.notation import GREATEST, maker_of


def register_fits(book, row):
    return book.can_make([row[1]])


def give_fits(book, row):
    _, thing, epoch, receiver = row
    return book.has_free(thing) and epoch == book.entry(thing).epoch + 1 and receiver != book.name


def got_fits(book, row):
    _, thing, home, quantity, epoch, sender = row
    if sender == book.name or epoch < 2:
        return False
    entry = book.entry(thing)
    if entry is None or entry.is_unknown():
        # What this office made is known to it from its making.
        return maker_of(thing)[0] != book.name
    return entry.is_given() and entry.epoch < epoch and entry.home == home and entry.quantity == quantity


def split_fits(book, row):
    _, thing, *rest = row
    if not book.has_free(thing) or not book.can_make(rest[0::2]):
        return False
    return sum(rest[1::2]) == book.entry(thing).quantity


def join_fits(book, row):
    _, new, *things = row
    if len(set(things)) < len(things) or not book.can_make([new]):
        return False
    if not all([book.has_free(thing) for thing in things]):
        return False
    entries = [book.entry(thing) for thing in things]
    if not all([entry.home == entries[0].home for entry in entries]):
        return False
    return sum([entry.quantity for entry in entries]) <= GREATEST


def use_fits(book, row):
    return book.has_free(row[1])


def recall_fits(book, row):
    entry = book.entry(row[1])
    return entry is not None and not entry.is_unknown() and not entry.recalled


def notice_fits(book, row):
    _, thing, sender = row
    entry = book.entry(thing)
    return sender != book.name and (entry is None or not entry.recalled)


def receipt_fits(book, row):
    _, thing, epoch = row
    entry = book.entry(thing)
    return entry is not None and entry.is_given() and entry.epoch == epoch and not entry.receipted


def noted_fits(book, row):
    _, thing, office = row
    entry = book.entry(thing)
    if entry is None or not entry.is_given() or entry.receiver != office:
        return False
    return entry.recalled and not entry.noted


def pay_fits(book, row):
    return row[1] not in book.outlays


def paid_fits(book, row):
    _, thing, quantity = row
    entry = book.entry(thing)
    return entry is not None and entry.state == "used" and not entry.credited and entry.quantity == quantity


RULES = {
    "register": register_fits,
    "give": give_fits,
    "got": got_fits,
    "split": split_fits,
    "join": join_fits,
    "use": use_fits,
    "recall": recall_fits,
    "notice": notice_fits,
    "receipt": receipt_fits,
    "noted": noted_fits,
    "pay": pay_fits,
    "paid": paid_fits,
}


def fits(book, row):
    """Tell whether a line, as a tuple, fits a book."""
    rule = RULES[row[0]]
    return rule(book, row)
