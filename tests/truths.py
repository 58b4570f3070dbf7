"""What holds in every world at every moment, and behind `calm` (points 5.4 and 5.5), read off its journals and books."""

from tests.plain import rows_of

ENDS = ("used", "split", "joined")


def made_in(rows):
    """The things that the lines of a journal make, each with its quantity or None, and what it was made of."""
    for row in rows:
        if row[0] == "register":
            yield row[1], row[2], []
        elif row[0] == "split":
            for part, quantity in zip(row[2::2], row[3::2]):
                yield part, quantity, [row[1]]
        elif row[0] == "join":
            yield row[1], None, list(row[2:])


class Truths:
    """All that is checked of one world at one moment."""

    def __init__(self, test, world):
        self.test = test
        self.world = world
        self.offices = {name: world.office(name) for name in world.names()}
        self.rows = {name: rows_of(office.journal()) for name, office in self.offices.items()}
        self.entries = {
            name: {thing: office.entry(thing) for thing in office.known()} for name, office in self.offices.items()}
        self.sources = {}
        self.quantities = {}
        self.homes = {}
        for name, rows in self.rows.items():
            for thing, quantity, sources in made_in(rows):
                test.assertNotIn(thing, self.sources, "made twice")
                self.sources[thing] = sources
                self.quantities[thing] = quantity
                self.homes[thing] = name
        for thing in self.sources:
            self.quantities[thing] = self.quantity_of(thing)
            self.homes[thing] = self.home_of(thing)

    def quantity_of(self, thing):
        told = self.quantities[thing]
        return sum(self.quantity_of(source) for source in self.sources[thing]) if told is None else told

    def home_of(self, thing):
        """Where what a thing came of was registered."""
        for source in self.sources[thing]:
            return self.home_of(source)
        return thing.partition("-")[0]

    def came_of(self, thing):
        """The thing itself and all that it came of."""
        found = {thing}
        for source in self.sources[thing]:
            found |= self.came_of(source)
        return found

    def places(self, thing):
        """Where a thing is, or how it ended: one place in every world."""
        found = []
        for name, entries in self.entries.items():
            entry = entries.get(thing)
            if entry and (entry[4] == "held" or entry[4] in ENDS):
                found.append(entry[4])
            if entry and entry[4] == "given":
                other = self.entries[entry[5]].get(thing)
                if other is None or other[3] < entry[3]:
                    found.append("under way")
        return found

    def all_lines(self, word):
        return [(name, row) for name, rows in self.rows.items() for row in rows if row[0] == word]

    def check_places(self):
        for thing in self.sources:
            self.test.assertEqual(len(self.places(thing)), 1, thing)

    def check_sums(self):
        made, left = {}, {}
        for name, row in self.all_lines("register"):
            made[name] = made.get(name, 0) + row[2]
        for thing in self.sources:
            if self.places(thing)[0] in ("held", "under way", "used"):
                left[self.homes[thing]] = left.get(self.homes[thing], 0) + self.quantities[thing]
        self.test.assertEqual(left, made)

    def check_once(self):
        for word in ("use", "pay", "paid", "split"):
            things = [row[1] for _, row in self.all_lines(word)]
            self.test.assertEqual(len(set(things)), len(things), word)
        joined = [thing for _, row in self.all_lines("join") for thing in row[2:]]
        self.test.assertEqual(len(set(joined)), len(joined))
        given = [row[1:3] for _, row in self.all_lines("give")]
        self.test.assertEqual(len(set(given)), len(given))
        got = [(row[1], row[4]) for _, row in self.all_lines("got")]
        self.test.assertEqual(len(set(got)), len(got))

    def check_books(self):
        for name, entries in self.entries.items():
            for thing, entry in entries.items():
                self.test.assertIn(thing, self.sources)
                if entry[4] == "unknown":
                    self.test.assertEqual(entry, (thing, None, 0, 0, "unknown", None, True))
                else:
                    self.test.assertEqual(entry[1:3], (self.homes[thing], self.quantities[thing]), (name, thing))

    def check_payments(self):
        users = {row[1]: name for name, row in self.all_lines("use")}
        for name, row in self.all_lines("pay"):
            told = (name, users.get(row[1]), self.quantities[row[1]])
            self.test.assertEqual(told, (self.homes[row[1]], row[2], row[3]))
        paid = {row[1] for _, row in self.all_lines("pay")}
        for name, row in self.all_lines("paid"):
            self.test.assertIn(row[1], paid)

    def check_call_backs(self):
        """A thing is called back only if it, or what it came of, was by an office that had had it."""
        recalled = {row[1] for _, row in self.all_lines("recall")}
        for name, row in self.all_lines("recall"):
            had = [kept for kept in self.rows[name] if kept[0] == "got" and kept[1] == row[1]]
            made = [thing for thing, _, _ in made_in(self.rows[name]) if thing == row[1]]
            self.test.assertTrue(had or made, (name, row))
        for entries in self.entries.values():
            for thing, entry in entries.items():
                if entry[6]:
                    self.test.assertTrue(self.came_of(thing) & recalled, thing)

    def check(self):
        self.check_places()
        self.check_sums()
        self.check_once()
        self.check_books()
        self.check_payments()
        self.check_call_backs()

    def check_calm(self):
        test = self.test
        test.assertEqual(self.world.net.letters(), [])
        for office in self.offices.values():
            test.assertEqual(office.pending(), [])
        for thing in self.sources:
            test.assertNotEqual(self.places(thing), ["under way"], thing)
        used = sorted(row[1] for _, row in self.all_lines("use"))
        test.assertEqual(sorted(row[1] for _, row in self.all_lines("pay")), used)
        test.assertEqual(sorted(row[1] for _, row in self.all_lines("paid")), used)
        for name, office in self.offices.items():
            own = [row[1] for row in self.rows[name] if row[0] == "use"]
            test.assertEqual(office.credit(), sum(self.quantities[thing] for thing in own), name)
        recalled = {row[1] for _, row in self.all_lines("recall")}
        for entries in self.entries.values():
            for thing, entry in entries.items():
                if entry[4] == "held" and self.came_of(thing) & recalled:
                    test.assertIs(entry[6], True, thing)


def check_world(test, world):
    Truths(test, world).check()


def check_calm_world(test, world):
    truths = Truths(test, world)
    truths.check()
    truths.check_calm()
