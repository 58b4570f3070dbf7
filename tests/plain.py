"""A plain model of offices and worlds, made from the document alone, to lead beside the program.

It knows nothing of the package but the names of its errors. Where it can, it asks the rows of the journal themselves.
"""

from letterheld import errors

TOP = 1000000000


def rows_of(text):
    """The tuples of the whole lines of a journal that is known to be good."""
    lines = text.split("\n")[:-1]
    return [tuple(int(word) if word.isdigit() else word for word in line.split(" ")) for line in lines]


def text_of(rows):
    return "".join(" ".join(str(word) for word in row) + "\n" for row in rows)


def maker(thing):
    name, _, number = thing.partition("-")
    return name, int(number)


def is_name(text):
    return 1 <= len(text) <= 12 and all(sign in "abcdefghijklmnopqrstuvwxyz" for sign in text)


class Misfit(Exception):
    """A line that does not fit; its number is the only argument."""


class PlainOffice:
    def __init__(self, name, rows=()):
        self.name = name
        self.rows = []
        # From the id to a dict of home, quantity, epoch, state, to, back and of (what it was made of here).
        self.things = {}
        for row in rows:
            if not self.fits(row):
                raise Misfit(len(self.rows) + 1)
            self.put(row)

    # What the lines say.

    def journal(self):
        return text_of(self.rows)

    def entry(self, thing):
        if thing not in self.things:
            return None
        found = self.things[thing]
        return (thing,) + tuple(found[part] for part in ("home", "quantity", "epoch", "state", "to", "back"))

    def known(self):
        return list(self.things)

    def held(self):
        return [thing for thing in self.things if self.state(thing) == "held"]

    def payments(self):
        return [row[1:] for row in self.rows if row[0] == "pay"]

    def credit(self):
        return sum(row[2] for row in self.rows if row[0] == "paid")

    def state(self, thing):
        return self.things[thing]["state"] if thing in self.things else None

    def back(self, thing):
        return thing in self.things and self.things[thing]["back"]

    def free(self, thing):
        return self.state(thing) == "held" and not self.back(thing)

    def quantity(self, thing):
        return self.things[thing]["quantity"]

    def next_ids(self, many):
        made = sum({"register": 1, "join": 1, "split": len(row) // 2 - 1}.get(row[0], 0) for row in self.rows)
        return [f"{self.name}-{made + step}" for step in range(1, many + 1)]

    def new(self, things):
        return list(things) == self.next_ids(len(things)) and not any(thing in self.things for thing in things)

    # Whether a line fits (point 3.4).

    def fits(self, row):
        return getattr(self, "fits_" + row[0])(*row[1:])

    def fits_register(self, thing, quantity):
        return self.new([thing])

    def fits_give(self, thing, epoch, office):
        return self.free(thing) and epoch == self.things[thing]["epoch"] + 1 and office != self.name

    def fits_got(self, thing, home, quantity, epoch, office):
        if office == self.name or epoch < 2:
            return False
        if self.state(thing) == "given":
            found = self.things[thing]
            return found["epoch"] < epoch and (found["home"], found["quantity"]) == (home, quantity)
        return maker(thing)[0] != self.name and self.state(thing) in (None, "unknown")

    def fits_split(self, thing, *rest):
        if not self.free(thing) or len(rest) < 4:
            return False
        return self.new(rest[::2]) and sum(rest[1::2]) == self.quantity(thing)

    def fits_join(self, new, *things):
        if len(things) < 2 or len(set(things)) != len(things) or not self.new([new]):
            return False
        if not all(self.free(thing) for thing in things):
            return False
        homes = {self.things[thing]["home"] for thing in things}
        return len(homes) == 1 and sum(self.quantity(thing) for thing in things) <= TOP

    def fits_use(self, thing):
        return self.free(thing)

    def fits_recall(self, thing):
        return self.state(thing) not in (None, "unknown") and not self.back(thing)

    def fits_notice(self, thing, office):
        return office != self.name and not self.back(thing)

    def fits_receipt(self, thing, epoch):
        given = self.state(thing) == "given" and self.things[thing]["epoch"] == epoch
        return given and ("receipt", thing, epoch) not in self.rows

    def fits_noted(self, thing, office):
        given = self.state(thing) == "given" and self.things[thing]["to"] == office
        return given and self.back(thing) and not self.has_line("noted", thing)

    def fits_pay(self, thing, office, quantity):
        return not self.has_line("pay", thing)

    def fits_paid(self, thing, quantity):
        return self.state(thing) == "used" and self.quantity(thing) == quantity and not self.has_line("paid", thing)

    def has_line(self, word, thing):
        return any(row[:2] == (word, thing) for row in self.rows)

    # What a line changes.

    def put(self, row):
        word, thing = row[:2]
        if word in ("register", "split", "join"):
            self.put_new(row)
        elif word == "give":
            self.things[thing].update(epoch=row[2], state="given", to=row[3])
        elif word == "got":
            if thing not in self.things:
                self.learn(thing, None, 0, 0, "unknown")
            self.things[thing].update(home=row[2], quantity=row[3], epoch=row[4], state="held")
        elif word == "use":
            self.things[thing]["state"] = "used"
        elif word in ("recall", "notice"):
            if thing not in self.things:
                self.learn(thing, None, 0, 0, "unknown")
            self.call_back(thing)
        self.rows.append(row)

    def put_new(self, row):
        word, thing = row[:2]
        if word == "register":
            self.learn(thing, self.name, row[2], 1, "held")
        elif word == "split":
            self.things[thing]["state"] = "split"
            for part, quantity in zip(row[2::2], row[3::2]):
                self.learn(part, self.things[thing]["home"], quantity, 1, "held", [thing])
        else:
            quantity = sum(self.quantity(source) for source in row[2:])
            self.learn(thing, self.things[row[2]]["home"], quantity, 1, "held", row[2:])
            for source in row[2:]:
                self.things[source]["state"] = "joined"

    def learn(self, thing, home, quantity, epoch, state, of=()):
        self.things[thing] = {
            "home": home, "quantity": quantity, "epoch": epoch, "state": state, "to": None, "back": False, "of": of}

    def call_back(self, thing):
        before = None
        reached = {thing}
        while reached != before:
            before = set(reached)
            reached |= {other for other in self.things if reached & set(self.things[other]["of"])}
        for other in reached:
            self.things[other]["back"] = True

    # Letters.

    def letters_about(self, thing):
        home, quantity, epoch, state, to, back = self.entry(thing)[1:]
        letters = []
        if state == "given" and ("receipt", thing, epoch) not in self.rows:
            letters.append(("deed", self.name, to, thing, home, quantity, epoch))
        if state == "given" and back and not self.has_line("noted", thing):
            letters.append(("notice", self.name, to, thing))
        if state == "used" and not self.has_line("paid", thing):
            letters.append(("claim", self.name, home, thing, quantity))
        return letters

    def pending(self):
        return [letter for thing in self.things for letter in self.letters_about(thing)]

    def write(self, row):
        """Write a line; the letters that become pending by it."""
        before = self.pending()
        self.put(row)
        return [letter for letter in self.pending() if letter not in before]

    def receive(self, letter):
        word, sender, receiver, thing, *rest = letter
        if receiver != self.name:
            raise errors.InvalidOffice("another office")
        row = {
            "deed": lambda: ("got", thing, rest[0], rest[1], rest[2], sender),
            "notice": lambda: ("notice", thing, sender),
            "claim": lambda: ("pay", thing, sender, rest[0]),
            "receipt": lambda: ("receipt", thing, rest[0]),
            "noted": lambda: ("noted", thing, sender),
            "paid": lambda: ("paid", thing, rest[0]),
        }[word]()
        become = self.write(row) if self.fits(row) else []
        if word == "deed":
            return [("receipt", self.name, sender, thing, rest[2])]
        if word == "notice":
            return [("noted", self.name, sender, thing)] + become
        if word == "claim" and row in self.rows:
            return [("paid", self.name, sender, thing, rest[0])]
        return []

    # Commands (point 4.4).

    def check_free(self, thing):
        if self.state(thing) != "held":
            raise errors.NotHeld("not held")
        if self.back(thing):
            raise errors.Frozen("called back")

    def create(self, quantity):
        if not 1 <= quantity <= TOP:
            raise errors.InvalidQuantity("no quantity")
        thing = self.next_ids(1)[0]
        self.write(("register", thing, quantity))
        return thing

    def give(self, thing, receiver):
        if not is_name(receiver) or receiver == self.name:
            raise errors.InvalidOffice("no receiver")
        self.check_free(thing)
        return self.write(("give", thing, self.things[thing]["epoch"] + 1, receiver))

    def use(self, thing):
        self.check_free(thing)
        return self.write(("use", thing))

    def recall(self, thing):
        if self.state(thing) in (None, "unknown"):
            raise errors.UnknownThing("not known")
        if self.back(thing):
            raise errors.Frozen("called back")
        return self.write(("recall", thing))

    def split(self, thing, sizes):
        self.check_free(thing)
        if any(not 1 <= size <= TOP for size in sizes) or len(sizes) < 2 or sum(sizes) != self.quantity(thing):
            raise errors.InvalidQuantity("no sizes")
        new = self.next_ids(len(sizes))
        self.write(("split", thing, *(word for pair in zip(new, sizes) for word in pair)))
        return new

    def join(self, things):
        for thing in things:
            self.check_free(thing)
        if len(set(things)) != len(things) or len(things) < 2:
            raise errors.InvalidThings("not two different things")
        if len({self.things[thing]["home"] for thing in things}) > 1:
            raise errors.InvalidThings("two homes")
        if sum(self.quantity(thing) for thing in things) > TOP:
            raise errors.InvalidQuantity("too many")
        new = self.next_ids(1)[0]
        self.write(("join", new, *things))
        return new


class PlainNet:
    def __init__(self):
        self.all = []

    def letters(self):
        return list(self.all)

    def take(self, place):
        if not 0 <= place < len(self.all):
            raise errors.NoLetter("no letter")
        return self.all.pop(place)

    def double(self, place):
        if not 0 <= place < len(self.all):
            raise errors.NoLetter("no letter")
        self.all.append(self.all[place])


class PlainWorld:
    def __init__(self, names):
        self.offices = {name: PlainOffice(name) for name in sorted(names)}
        self.net = PlainNet()

    def names(self):
        return list(self.offices)

    def office(self, name):
        if name not in self.offices:
            raise errors.InvalidOffice("no office")
        return self.offices[name]

    def create(self, name, quantity):
        return self.office(name).create(quantity)

    def split(self, name, thing, sizes):
        return self.office(name).split(thing, sizes)

    def join(self, name, things):
        return self.office(name).join(things)

    def give(self, name, thing, receiver):
        self.office(receiver)
        self.net.all += self.office(name).give(thing, receiver)

    def use(self, name, thing):
        self.net.all += self.office(name).use(thing)

    def recall(self, name, thing):
        self.net.all += self.office(name).recall(thing)

    def tick(self, name):
        self.net.all += self.office(name).pending()

    def deliver(self, place):
        letter = self.net.take(place)
        self.net.all += self.offices[letter[2]].receive(letter)
        return letter

    def cut(self, name, journal):
        self.office(name)
        self.offices[name] = PlainOffice(name, rows_of(journal))

    def calm(self):
        rounds = 0
        while self.net.all or any(office.pending() for office in self.offices.values()):
            rounds += 1
            for name in self.offices:
                self.tick(name)
            while self.net.all:
                self.deliver(0)
        return rounds
