"""An office that gets any commands and any letters, also such as no world writes, beside a plain model."""

import random
import unittest

from letterheld.office import Office
from tests.leading import TOP, book_of, outcome
from tests.plain import PlainOffice

OTHERS = ["bay", "cob", "zed"]


def some_thing(rng, office):
    strange = ["bay-1", "bay-2", "cob-1", "cob-10", "zed-7"]
    return rng.choice(office.known() * 2 + strange)


def some_letter(rng, office):
    """A letter about any thing; its words mostly fit the book."""
    thing = some_thing(rng, office)
    entry = office.entry(thing) or (thing, rng.choice(["ash"] + OTHERS), rng.choice([1, 5, 40, TOP]), 1, "", None, False)
    home = entry[1] if entry[1] and rng.random() < 0.9 else rng.choice(["ash"] + OTHERS)
    quantity = entry[2] if entry[2] and rng.random() < 0.9 else rng.choice([1, 5, 40, TOP])
    epoch = max(1, entry[3] + rng.choice([-1, 0, 0, 1, 1, 1, 2, 7]))
    sender = entry[5] if entry[5] and rng.random() < 0.7 else rng.choice(OTHERS * 4 + ["ash"])
    receiver = "ash" if rng.random() < 0.97 else rng.choice(OTHERS)
    return rng.choice([
        ("deed", sender, receiver, thing, home, quantity, epoch),
        ("deed", sender, receiver, thing, home, quantity, epoch),
        ("receipt", sender, receiver, thing, entry[3] if rng.random() < 0.6 and entry[3] else epoch),
        ("notice", sender, receiver, thing),
        ("noted", sender, receiver, thing),
        ("claim", sender, receiver, thing, quantity),
        ("paid", sender, receiver, thing, quantity),
    ])


def some_command(rng, office):
    word = rng.choice(["create", "give", "give", "give", "use", "recall", "split", "join"])
    thing = rng.choice(office.held() or ["ash-1"]) if rng.random() < 0.8 else some_thing(rng, office)
    if word == "create":
        return word, rng.choice([1, 5, 5, 40, 40, TOP, TOP - 5, 0, TOP + 1])
    if word == "give":
        return word, thing, rng.choice(OTHERS * 5 + ["ash", "", "A"])
    if word == "split":
        quantity = (office.entry(thing) or (0, 0, 5))[2]
        return word, thing, rng.choice([[1, quantity - 1], [2, quantity - 3, 1], [quantity], [quantity - 1, 2]])
    if word == "join":
        held = office.held() or ["ash-1"]
        return word, [rng.choice(held) for _ in range(rng.choice([1, 2, 2, 2, 3]))]
    return word, thing


class RunsTest(unittest.TestCase):
    def test_runs(self):
        for seed in range(250):
            rng = random.Random(seed)
            office, model = Office("ash"), PlainOffice("ash")
            for _ in range(60):
                if rng.random() < 0.5:
                    word, *words = some_command(rng, office)
                else:
                    word, words = "receive", [some_letter(rng, office)]
                told = outcome(getattr(office, word), *words)
                self.assertEqual(told, outcome(getattr(model, word), *words), (seed, word, words))
                self.assertEqual(book_of(office), book_of(model), (seed, word, words))
            self.assertEqual(book_of(Office("ash", office.journal())), book_of(office))


if __name__ == "__main__":
    unittest.main()
