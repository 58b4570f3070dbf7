"""An office: its journal, the commands that are given to it, and the letters that it gets and writes."""

from letterheld.book import Book
from letterheld.changing import change
from letterheld.errors import BrokenJournal, Frozen, InvalidLine, InvalidOffice, InvalidQuantity, InvalidThings
from letterheld.errors import NotHeld, UnknownThing
from letterheld.fitting import fits
from letterheld.notation import format_journal, is_line, is_office, is_quantity, parse_journal


class Office:
    """An office with the book of a journal."""

    def __init__(self, name, journal=""):
        if not is_office(name):
            raise InvalidOffice("an office has a name of 1 to 12 letters from a to z")
        self.name = name
        self._rows = []
        self._book = Book(name)
        for row in parse_journal(journal):
            self._write(row)

    def journal(self):
        """Return the journal, all lines with their newlines."""
        return format_journal(self._rows)

    def entry(self, thing):
        """Return what the book has for a thing, as a tuple, or None if the thing is not known."""
        entry = self._book.entry(thing)
        if entry is None:
            return None
        worth = (entry.thing, entry.home, entry.quantity, entry.epoch)
        return worth + (entry.state, entry.receiver, entry.recalled)

    def known(self):
        """Return the ids of all things that the book has, in the order in which the office learned of them."""
        return list(self._book.entries)

    def held(self):
        """Return the ids of the things that the office holds, in the same order."""
        return [entry.thing for entry in self._book.entries.values() if entry.state == "held"]

    def payments(self):
        """Return the payments, as tuples (id, office, quantity), in the order in which they were paid."""
        return list(self._book.outlays.values())

    def credit(self):
        """Return the sum of what was paid to the office."""
        return self._book.earned

    def create(self, quantity):
        """Make a thing and return its id. Raises InvalidQuantity."""
        if not is_quantity(quantity):
            raise InvalidQuantity("a quantity is a number from 1 to 1000000000")
        thing = self._book.next_things(1)[0]
        self._write_new(("register", thing, quantity))
        return thing

    def give(self, thing, receiver):
        """Give a thing to another office; return the letters to send. Raises InvalidOffice, NotHeld, Frozen."""
        if not is_office(receiver) or receiver == self.name:
            raise InvalidOffice("a thing is given to another office")
        self._check_free(thing)
        epoch = self._book.entry(thing).epoch + 1
        return self._write_and_tell(("give", thing, epoch, receiver))

    def use(self, thing):
        """Use a thing; return the letters to send. Raises NotHeld, Frozen."""
        self._check_free(thing)
        return self._write_and_tell(("use", thing))

    def recall(self, thing):
        """Call a thing back; return the letters to send. Raises UnknownThing, Frozen."""
        entry = self._book.entry(thing)
        if entry is None or entry.is_unknown():
            raise UnknownThing(f"{thing} is not known here")
        if entry.recalled:
            raise Frozen(f"{thing} is called back already")
        return self._write_and_tell(("recall", thing))

    def split(self, thing, sizes):
        """Split a thing; return the ids of the parts. Raises NotHeld, Frozen, InvalidQuantity."""
        self._check_free(thing)
        if not all([is_quantity(size) for size in sizes]):
            raise InvalidQuantity("a size is a number from 1 to 1000000000")
        if len(sizes) < 2 or sum(sizes) != self._book.entry(thing).quantity:
            raise InvalidQuantity(f"the sizes are at least two and sum to the quantity of {thing}")
        new = self._book.next_things(len(sizes))
        row = ["split", thing]
        for part, size in zip(new, sizes):
            row.extend([part, size])
        self._write_new(tuple(row))
        return new

    def join(self, things):
        """Join things; return the id of the new one. Raises NotHeld, Frozen, InvalidThings, InvalidQuantity."""
        for thing in things:
            self._check_free(thing)
        entries = [self._book.entry(thing) for thing in things]
        if len(set(things)) < len(things) or len({entry.home for entry in entries}) > 1:
            raise InvalidThings("the things to join are different, and of one home")
        if len(things) < 2:
            raise InvalidThings("at least two things are joined")
        if not is_quantity(sum([entry.quantity for entry in entries])):
            raise InvalidQuantity("the things to join sum to more than 1000000000")
        new = self._book.next_things(1)[0]
        self._write_new(("join", new) + tuple(things))
        return new

    def pending(self):
        """Return the letters that wait for an answer, in the order in which the office learned of the things."""
        letters = []
        for entry in self._book.entries.values():
            letters.extend(self._letters_about(entry))
        return letters

    def receive(self, letter):
        """Return the letters that answer a letter. Raises InvalidOffice if it is for another office."""
        if letter[2] != self.name:
            raise InvalidOffice(f"the letter is for {letter[2]}")
        if letter[0] == "deed":
            return self._receive_deed(letter)
        if letter[0] == "notice":
            return self._receive_notice(letter)
        if letter[0] == "claim":
            return self._receive_claim(letter)
        if letter[0] == "noted":
            self._write_if_it_fits(("noted", letter[3], letter[1]))
        if letter[0] == "receipt" or letter[0] == "paid":
            # Behind the receiver, these two have the words of their lines.
            self._write_if_it_fits((letter[0],) + letter[3:])
        return []

    def _receive_deed(self, letter):
        _, sender, _, thing, home, quantity, epoch = letter
        self._write_if_it_fits(("got", thing, home, quantity, epoch, sender))
        return [("receipt", self.name, sender, thing, epoch)]

    def _receive_notice(self, letter):
        _, sender, _, thing = letter
        before = self.pending()
        self._write_if_it_fits(("notice", thing, sender))
        return [("noted", self.name, sender, thing)] + self._pending_since(before)

    def _receive_claim(self, letter):
        _, sender, _, thing, quantity = letter
        self._write_if_it_fits(("pay", thing, sender, quantity))
        if self._book.outlays.get(thing) != (thing, sender, quantity):
            return []
        return [("paid", self.name, sender, thing, quantity)]

    def _check_free(self, thing):
        entry = self._book.entry(thing)
        if entry is None or entry.state != "held":
            raise NotHeld(f"{thing} is not held here")
        if entry.recalled:
            raise Frozen(f"{thing} is called back")

    def _letters_about(self, entry):
        letters = []
        if entry.is_given() and not entry.receipted:
            worth = (entry.thing, entry.home, entry.quantity, entry.epoch)
            letters.append(("deed", self.name, entry.receiver) + worth)
        if entry.is_given() and entry.recalled and not entry.noted:
            letters.append(("notice", self.name, entry.receiver, entry.thing))
        if entry.state == "used" and not entry.credited:
            letters.append(("claim", self.name, entry.home, entry.thing, entry.quantity))
        return letters

    def _pending_since(self, before):
        # Letters can be very many, so that each is not looked for in a list.
        earlier = set(before)
        return [letter for letter in self.pending() if letter not in earlier]

    def _write_and_tell(self, row):
        before = self.pending()
        self._write_new(row)
        return self._pending_since(before)

    def _write(self, row):
        if not fits(self._book, row):
            raise BrokenJournal(len(self._rows) + 1)
        self._put(row)

    def _write_new(self, row):
        # Letters can bring an epoch up to the greatest number: no line can give the thing any further.
        if not is_line(row):
            raise InvalidLine(len(self._rows) + 1)
        self._write(row)

    def _write_if_it_fits(self, row):
        if is_line(row) and fits(self._book, row):
            self._put(row)

    def _put(self, row):
        change(self._book, row)
        self._rows.append(row)
