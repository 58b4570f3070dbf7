"""A world: offices, and the net of the letters between them."""

from letterheld.errors import InvalidOffice
from letterheld.net import Net
from letterheld.office import Office


class World:
    """Offices with empty journals, and an empty net, which is the field `net`."""

    def __init__(self, names):
        self.net = Net()
        self._offices = {}
        for name in names:
            if name in self._offices:
                raise InvalidOffice(f"{name} stands twice among the names")
            self._offices[name] = Office(name)

    def names(self):
        """Return the names of the offices in ascending order."""
        return sorted(self._offices)

    def office(self, name):
        """Return an office. Raises InvalidOffice if there is none of this name."""
        office = self._offices.get(name)
        if office is None:
            raise InvalidOffice(f"there is no office {name}")
        return office

    def create(self, name, quantity):
        """Let an office make a thing; return its id."""
        return self.office(name).create(quantity)

    def split(self, name, thing, sizes):
        """Let an office split a thing; return the ids of the parts."""
        return self.office(name).split(thing, sizes)

    def join(self, name, things):
        """Let an office join things; return the id of the new one."""
        return self.office(name).join(things)

    def give(self, name, thing, receiver):
        """Let an office give a thing to another one."""
        self.office(receiver)
        self._send(self.office(name).give(thing, receiver))

    def use(self, name, thing):
        """Let an office use a thing."""
        self._send(self.office(name).use(thing))

    def recall(self, name, thing):
        """Let an office call a thing back."""
        self._send(self.office(name).recall(thing))

    def tick(self, name):
        """Let an office send all its pending letters again."""
        self._send(self.office(name).pending())

    def deliver(self, place):
        """Deliver the letter at a place of the net and return it. Raises NoLetter."""
        letters = self.net.letters()
        # A letter to an office that is not here stays where it is: an error changes nothing.
        if 0 <= place < len(letters):
            self.office(letters[place][2])
        letter = self.net.take(place)
        self._send(self.office(letter[2]).receive(letter))
        return letter

    def cut(self, name, journal):
        """Let an office come up again from a journal. Raises InvalidOffice and the errors of `Office`."""
        self.office(name)
        self._offices[name] = Office(name, journal)

    def calm(self):
        """Make rounds until no letter is under way and none is pending; return their number."""
        rounds = 0
        while self._is_busy():
            for name in self.names():
                self.tick(name)
            while self.net.letters():
                self.deliver(0)
            rounds += 1
        return rounds

    def _is_busy(self):
        if self.net.letters():
            return True
        return any([office.pending() for office in self._offices.values()])

    def _send(self, letters):
        for letter in letters:
            self.net.send(letter)
