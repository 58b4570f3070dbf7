"""A plain reading of the journals of all offices, made from the document alone (points 6.1 to 6.7)."""

from tests.plain import PlainOffice, maker, rows_of


def all_rows(journals):
    return {name: rows_of(journals[name]) for name in sorted(journals)}


def makes(row, thing):
    if row[0] == "split":
        return thing in row[2::2]
    return row[0] in ("register", "join") and row[1] == thing


def made_things(journals):
    found = []
    for rows in all_rows(journals).values():
        for row in rows:
            found += row[2::2] if row[0] == "split" else row[1:2] if row[0] in ("register", "join") else []
    return sorted(found, key=maker)


def end_of(row, thing):
    """How a holding of the thing ends with a line, or None."""
    if row[0] == "join":
        return "joined" if thing in row[2:] else None
    ends = {"give": "given", "use": "used", "split": "split"}
    return ends.get(row[0]) if row[1] == thing else None


def history(journals, thing):
    found = []
    everything = all_rows(journals)
    for name, rows in everything.items():
        for at, row in enumerate(rows):
            if makes(row, thing):
                begin = (1, name, None)
            elif row[0] == "got" and row[1] == thing:
                begin = (row[4], name, row[5])
            else:
                continue
            later = [end_of(other, thing) for other in rows[at + 1:]]
            found.append(begin + tuple([end for end in later if end] + ["held"])[:1])
    for name, rows in everything.items():
        for row in rows:
            if row[0] == "give" and row[1] == thing:
                got = [other for other in everything.get(row[3], []) if other[0] == "got" and other[1] == thing]
                if row[2] not in [other[4] for other in got]:
                    found.append((row[2], row[3], name, "under way"))
    return sorted(found, key=lambda told: told[0])


def sources(journals, thing):
    for rows in all_rows(journals).values():
        for row in rows:
            if makes(row, thing):
                return list(row[2:]) if row[0] == "join" else [row[1]] if row[0] == "split" else []
    return []


def parts(journals, thing):
    made = made_things(journals)
    of = {other: set(sources(journals, other)) for other in made}
    changed = True
    while changed:
        changed = False
        for other in made:
            more = set().union(*(of[source] for source in of[other])) - of[other]
            of[other] |= more
            changed = changed or bool(more)
    return sorted(of[thing], key=maker), sorted((other for other in made if thing in of[other]), key=maker)


def holders(journals):
    found = []
    for thing in made_things(journals):
        epoch, office, _, end = history(journals, thing)[-1]
        found.append((thing, (end, office, epoch)))
    return found


def claims(journals):
    found = []
    everything = all_rows(journals)
    for name, rows in everything.items():
        office = PlainOffice(name, rows)
        for thing in [row[1] for row in rows if row[0] == "use"]:
            home, quantity = office.entry(thing)[1:3]
            state = "open"
            if ("pay", thing, name, quantity) in everything[home]:
                state = "paid"
            if ("paid", thing, quantity) in rows:
                state = "credited"
            found.append((thing, name, home, quantity, state))
    return sorted(found, key=lambda claim: maker(claim[0]))


def called_back(journals):
    found = {}
    for name, rows in all_rows(journals).items():
        office = PlainOffice(name, rows)
        for thing in office.known():
            if office.back(thing):
                found.setdefault(thing, []).append(name)
    return [(thing, found[thing]) for thing in sorted(found, key=maker)]


def totals(journals):
    everything = all_rows(journals)
    quantities = {}
    for name, rows in everything.items():
        office = PlainOffice(name, rows)
        quantities.update({thing: office.quantity(thing) for thing in office.known() if maker(thing)[0] == name})
    registered = sum(row[2] for rows in everything.values() for row in rows if row[0] == "register")
    used = sum(quantities[row[1]] for rows in everything.values() for row in rows if row[0] == "use")
    left = sum(quantities[thing] for thing, (end, _, _) in holders(journals) if end in ("held", "under way"))
    return registered, used, left


class Judge:
    """The faults of journals, whoever wrote them (point 6.7)."""

    def __init__(self, journals):
        self.offices = {}
        self.lines = {}
        self.homes = {}
        for name, rows in all_rows(journals).items():
            office = self.offices[name] = PlainOffice(name)
            self.lines[name] = []
            for number, row in enumerate(rows, start=1):
                good = office.fits(row)
                if good and row[0] == "give":
                    self.homes[(name,) + row[1:]] = office.entry(row[1])[1:3]
                if good:
                    office.put(row)
                self.lines[name].append((number, row, good))

    def wrote(self, name, wanted):
        """Whether an office has a line that fits and that the function wants."""
        return any(good and wanted(row) for _, row, good in self.lines.get(name, []))

    def fault(self, name, row):
        word, thing = row[:2]
        if word == "got":
            _, _, home, quantity, epoch, sender = row
            return None if self.homes.get((sender, thing, epoch, name)) == (home, quantity) else "deed"
        if word == "receipt":
            for _, other, good in self.lines[name]:
                if good and other[:3] == ("give", thing, row[2]):
                    to = other[3]
            good = self.wrote(to, lambda got: got[:2] == ("got", thing) and got[4:] == (row[2], name))
            return None if good else "receipt"
        if word in ("notice", "noted"):
            other = self.offices.get(row[2])
            return None if other and other.back(thing) else word
        if word == "pay":
            other = self.offices.get(row[2])
            entry = other.entry(thing) if other else None
            return None if entry and entry[1:3] == (name, row[3]) and entry[4] == "used" else "pay"
        if word == "paid":
            home = self.offices[name].entry(thing)[1]
            return None if self.wrote(home, lambda pay: pay == ("pay", thing, name, row[2])) else "paid"
        return None

    def faults(self):
        found = []
        for name in self.lines:
            for number, row, good in self.lines[name]:
                fault = self.fault(name, row) if good else "book"
                if fault:
                    found.append((name, number, fault))
        return found


def faults(journals):
    return Judge(journals).faults()
