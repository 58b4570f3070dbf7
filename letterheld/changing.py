"""What a line of a journal that fits changes in the book."""


def change_register(book, row):
    _, thing, quantity = row
    book.make(thing, book.name, quantity)


def change_give(book, row):
    _, thing, epoch, receiver = row
    entry = book.entry(thing)
    entry.state = "given"
    entry.epoch = epoch
    entry.receiver = receiver
    entry.receipted = False


def change_got(book, row):
    thing, home, quantity, epoch = row[1:5]
    entry = book.entry(thing)
    if entry is None:
        book.learn(thing, home, quantity, epoch, "held")
        return
    # The place among the things, and whether it is called back, stay as they were.
    entry.home = home
    entry.quantity = quantity
    entry.epoch = epoch
    entry.state = "held"


def change_split(book, row):
    _, thing, *rest = row
    entry = book.entry(thing)
    entry.state = "split"
    for part, quantity in zip(rest[0::2], rest[1::2]):
        book.make(part, entry.home, quantity)
        book.descend(thing, part)


def change_join(book, row):
    _, new, *things = row
    entries = [book.entry(thing) for thing in things]
    book.make(new, entries[0].home, sum([entry.quantity for entry in entries]))
    for entry in entries:
        entry.state = "joined"
        book.descend(entry.thing, new)


def change_use(book, row):
    entry = book.entry(row[1])
    entry.state = "used"


def change_recall(book, row):
    book.call_back(row[1])


def change_notice(book, row):
    thing = row[1]
    if book.entry(thing) is None:
        book.learn(thing, None, 0, 0, "unknown")
    book.call_back(thing)


def change_receipt(book, row):
    entry = book.entry(row[1])
    entry.receipted = True


def change_noted(book, row):
    entry = book.entry(row[1])
    entry.noted = True


def change_pay(book, row):
    _, thing, office, quantity = row
    book.outlays[thing] = (thing, office, quantity)


def change_paid(book, row):
    _, thing, quantity = row
    entry = book.entry(thing)
    entry.credited = True
    book.earned += quantity


CHANGES = {
    "register": change_register,
    "give": change_give,
    "got": change_got,
    "split": change_split,
    "join": change_join,
    "use": change_use,
    "recall": change_recall,
    "notice": change_notice,
    "receipt": change_receipt,
    "noted": change_noted,
    "pay": change_pay,
    "paid": change_paid,
}


def change(book, row):
    """Change a book as a line that fits it says."""
    action = CHANGES[row[0]]
    action(book, row)
