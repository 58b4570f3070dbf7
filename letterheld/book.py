"""The book of an office: what the lines of its journal say of each thing."""

from letterheld.notation import id_of


class Entry:
    """What a book has for one thing."""

    def __init__(self, thing, home, quantity, epoch, state):
        self.thing = thing
        self.home = home
        self.quantity = quantity
        self.epoch = epoch
        self.state = state
        # The office to which the thing was last given from here, and whether it told that it got it.
        self.receiver = None
        self.receipted = False
        # Whether the thing is called back, and whether the receiver told that it knows it.
        self.recalled = False
        self.noted = False
        # Whether the office was told that its home paid the used thing.
        self.credited = False

    def is_free(self):
        """Tell whether the thing is held and not called back."""
        return self.state == "held" and not self.recalled

    def is_given(self):
        """Tell whether the thing is given from here and has not come back."""
        return self.state == "given"

    def is_unknown(self):
        """Tell whether the office has only been told that the thing is called back."""
        return self.state == "unknown"


class Book:
    """The entries of an office in the order in which it learned of the things, and what it paid and earned."""

    def __init__(self, name):
        self.name = name
        self.entries = {}
        # How many things the office made: the next one gets the number behind this.
        self.made = 0
        # From each thing that was split or joined here to the things that were made of it.
        self.offspring = {}
        # From each thing that the office paid for to the payment.
        self.outlays = {}
        self.earned = 0

    def entry(self, thing):
        """Return the entry of a thing, or None if the thing is not known."""
        return self.entries.get(thing)

    def has_free(self, thing):
        """Tell whether the office holds a thing that is not called back."""
        entry = self.entry(thing)
        return entry is not None and entry.is_free()

    def next_things(self, many):
        """Return the ids that the next things of this office get."""
        return [id_of(self.name, self.made + step) for step in range(1, many + 1)]

    def can_make(self, things):
        """Tell whether these are the next ids of this office, and none of them is known."""
        # A notice can tell of a thing that has such an id and was never made.
        known = [thing for thing in things if thing in self.entries]
        return things == self.next_things(len(things)) and not known

    def learn(self, thing, home, quantity, epoch, state):
        """Put a thing behind all others."""
        self.entries[thing] = Entry(thing, home, quantity, epoch, state)

    def make(self, thing, home, quantity):
        """Put a thing that this office makes behind all others."""
        self.made += 1
        self.learn(thing, home, quantity, 1, "held")

    def descend(self, source, thing):
        """Keep that a thing was made of another one here."""
        self.offspring.setdefault(source, []).append(thing)

    def call_back(self, thing):
        """Call back a thing that is known, and all that was made of it here."""
        waiting = [thing]
        while waiting:
            entry = self.entry(waiting.pop())
            # What was made of a called-back thing is called back already: no more can be made of it.
            if not entry.recalled:
                entry.recalled = True
                waiting.extend(self.offspring.get(entry.thing, []))
