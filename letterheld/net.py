"""The net: the letters that are under way."""

from letterheld.errors import NoLetter


class Net:
    """Letters in the order in which they came into the net, with places counted from 0."""

    def __init__(self):
        self._under_way = []

    def letters(self):
        """Return the list of all letters, in their order."""
        return list(self._under_way)

    def send(self, letter):
        """Put a letter behind all others."""
        self._under_way.append(letter)

    def take(self, place):
        """Take the letter at a place out and return it. Raises NoLetter."""
        self._check(place)
        return self._under_way.pop(place)

    def double(self, place):
        """Put a copy of the letter at a place behind all others. Raises NoLetter."""
        self._check(place)
        # A letter is a tuple, which never changes, so the same tuple serves as the copy.
        self._under_way.append(self._under_way[place])

    def _check(self, place):
        # Python would count a place below 0 from the end.
        if place < 0 or place >= len(self._under_way):
            raise NoLetter(f"there is no letter at place {place}")
