"""The journals of offices, read line by line by somebody who stands outside."""

from letterheld.book import Book
from letterheld.changing import change
from letterheld.fitting import fits
from letterheld.notation import parse_journal


class Reading:
    """What one office wrote; lines that do not fit are passed over."""

    def __init__(self, name, rows):
        self.name = name
        # The book of all lines that fit.
        self.book = Book(name)
        # The lines that fit, and the numbers of those that do not.
        self.lines = []
        self.misfits = []
        # From (thing, epoch) to the office to which the thing was given, and from which it was got, in this epoch.
        self.receivers = {}
        self.senders = {}
        for number, row in enumerate(rows, start=1):
            if fits(self.book, row):
                change(self.book, row)
                self.lines.append((number, row))
                self._keep_ways(row)
            else:
                self.misfits.append(number)

    def _keep_ways(self, row):
        if row[0] == "give":
            _, thing, epoch, receiver = row
            self.receivers[(thing, epoch)] = receiver
        if row[0] == "got":
            self.senders[(row[1], row[4])] = row[5]

    def gave(self, thing, epoch, receiver):
        """Tell whether the thing was given in this epoch to this office."""
        return self.receivers.get((thing, epoch)) == receiver

    def got(self, thing, epoch, sender):
        """Tell whether the thing was got in this epoch from this office."""
        return self.senders.get((thing, epoch)) == sender

    def called_back(self, thing):
        """Tell whether the book has a thing called back."""
        entry = self.book.entry(thing)
        return entry is not None and entry.recalled

    def used(self, thing, home, quantity):
        """Tell whether the book has a thing used, with this home and this quantity."""
        entry = self.book.entry(thing)
        return entry is not None and entry.state == "used" and entry.home == home and entry.quantity == quantity

    def paid(self, thing, office, quantity):
        """Tell whether the office paid this quantity for a thing to an office."""
        return self.book.outlays.get(thing) == (thing, office, quantity)


def read_journals(journals):
    """Return a dict from names, in ascending order, to readings. Raises InvalidLine."""
    return {name: Reading(name, parse_journal(journals[name])) for name in sorted(journals)}


def reading_of(readings, name):
    """Return the reading of an office; one that has no journal has written nothing."""
    return readings[name] if name in readings else Reading(name, [])
