"""Journals of worlds, changed: lines left out, doubled, moved, with another word, cut off, journals left out."""

from letterheld.notation import is_office, is_thing


def split_lines(journals):
    return {name: journals[name].split("\n")[:-1] for name in journals}


def words_of_kind(journals, word):
    """All words of the journals that could stand where this one stands."""
    def kind(text):
        return "office" if is_office(text) else "thing" if is_thing(text) else "number"
    words = [other for lines in split_lines(journals).values() for line in lines for other in line.split(" ")[1:]]
    return sorted({other for other in words + ["1", "2", "ash", "bay"] if kind(other) == kind(word)})


def place_of(rng, lines):
    """A journal that has lines, and the place of one of them."""
    name = rng.choice([name for name in lines if lines[name]])
    return name, rng.randrange(len(lines[name]))


def spoil_once(rng, journals):
    lines = split_lines(journals)
    if not any(lines.values()):
        return dict(journals)
    name, at = place_of(rng, lines)
    line = lines[name][at]
    draw = rng.randrange(6)
    if draw == 0:
        lines[name].pop(at)
    elif draw == 1:
        lines[name].insert(rng.randrange(len(lines[name]) + 1), line)
    elif draw == 2:
        lines[name].pop(at)
        lines[rng.choice(sorted(lines))].append(line)
    elif draw == 3:
        words = line.split(" ")
        which = rng.randrange(1, len(words))
        words[which] = rng.choice(words_of_kind(journals, words[which]))
        lines[name][at] = " ".join(words)
    elif draw == 4:
        text = journals[name]
        return {**journals, name: text[:rng.randrange(len(text) + 1)]}
    else:
        return {other: journals[other] for other in journals if other != name}
    return {name: "".join(line + "\n" for line in lines[name]) for name in lines}


def spoil(rng, journals, many):
    for _ in range(many):
        journals = spoil_once(rng, journals)
    return journals
