"""The audit of the journals of worlds (points 6.1 to 6.6 and 6.8)."""

import random
import unittest

from letterheld import audit
from letterheld.errors import HeldError, InvalidLine, UnknownThing
from letterheld.world import World
from tests import leading, plain_audit
from tests.leading import NAMES, journals_of

WITH_THING = [audit.history, audit.parts]
WITHOUT_THING = [audit.holders, audit.claims, audit.called_back, audit.totals, audit.faults]


def led(names, *steps):
    world = World(names)
    for word, *words in steps:
        getattr(world, word)(*words)
    return world


def torn(rng, journals):
    """The journals, each perhaps with a last line that was not written to its end."""
    tails = ["", "use ash-1", "register ash-1 7", "nonsense", "give ash-1 2", "got ash-1 ash 5 2 bay"]
    return {name: journals[name] + rng.choice(tails) for name in journals}


class SmallWorldTest(unittest.TestCase):
    def setUp(self):
        self.world = led(
            ["ash", "bay", "cob"], ("create", "ash", 40), ("create", "ash", 7), ("give", "ash", "ash-1", "bay"), ("calm",),
            ("split", "bay", "ash-1", [10, 30]), ("give", "bay", "bay-2", "cob"), ("give", "ash", "ash-2", "cob"), ("calm",),
            ("join", "cob", ["bay-2", "ash-2"]), ("use", "bay", "bay-1"), ("calm",), ("give", "cob", "cob-1", "ash"),
            ("recall", "ash", "ash-2"), ("create", "bay", 3), ("use", "bay", "bay-3"))
        self.journals = journals_of(self.world)

    def test_history(self):
        expected = {
            "ash-1": [(1, "ash", None, "given"), (2, "bay", "ash", "split")],
            "ash-2": [(1, "ash", None, "given"), (2, "cob", "ash", "joined")],
            "bay-1": [(1, "bay", None, "used")],
            "bay-2": [(1, "bay", None, "given"), (2, "cob", "bay", "joined")],
            "bay-3": [(1, "bay", None, "used")],
            "cob-1": [(1, "cob", None, "given"), (2, "ash", "cob", "under way")],
        }
        for thing, rows in expected.items():
            self.assertEqual(audit.history(self.journals, thing), rows)

    def test_history_of_what_is_held(self):
        self.world.calm()
        self.assertEqual(
            audit.history(journals_of(self.world), "cob-1"), [(1, "cob", None, "given"), (2, "ash", "cob", "held")])

    def test_parts(self):
        expected = {
            "ash-1": ([], ["bay-1", "bay-2", "cob-1"]),
            "ash-2": ([], ["cob-1"]),
            "bay-1": (["ash-1"], []),
            "bay-2": (["ash-1"], ["cob-1"]),
            "bay-3": ([], []),
            "cob-1": (["ash-1", "ash-2", "bay-2"], []),
        }
        for thing, (sources, products) in expected.items():
            found, more = audit.parts(self.journals, thing)
            self.assertEqual((found, more), (sources, products))

    def test_holders(self):
        self.assertEqual(list(audit.holders(self.journals).items()), [
            ("ash-1", ("split", "bay", 2)), ("ash-2", ("joined", "cob", 2)), ("bay-1", ("used", "bay", 1)),
            ("bay-2", ("joined", "cob", 2)), ("bay-3", ("used", "bay", 1)), ("cob-1", ("under way", "ash", 2))])

    def test_claims(self):
        self.assertEqual(audit.claims(self.journals), [
            ("bay-1", "bay", "ash", 10, "credited"), ("bay-3", "bay", "bay", 3, "open")])
        claim = self.world.net.letters().index(("claim", "bay", "bay", "bay-3", 3))
        self.world.deliver(claim)
        self.assertEqual(audit.claims(journals_of(self.world))[1], ("bay-3", "bay", "bay", 3, "paid"))
        self.world.calm()
        self.assertEqual(audit.claims(journals_of(self.world))[1], ("bay-3", "bay", "bay", 3, "credited"))

    def test_called_back(self):
        self.assertEqual(audit.called_back(self.journals), {"ash-2": ["ash"]})
        self.world.calm()
        self.assertEqual(list(audit.called_back(journals_of(self.world)).items()), [
            ("ash-2", ["ash", "cob"]), ("cob-1", ["ash", "cob"])])

    def test_totals(self):
        self.assertEqual(audit.totals(self.journals), (50, 13, 37))
        self.world.calm()
        self.assertEqual(audit.totals(journals_of(self.world)), (50, 13, 37))

    def test_no_faults(self):
        self.assertEqual(audit.faults(self.journals), [])

    def test_returned_values_are_new(self):
        for function in WITHOUT_THING:
            if function is not audit.totals:
                function(self.journals).clear()
        audit.history(self.journals, "cob-1").clear()
        for found in audit.parts(self.journals, "cob-1"):
            found.clear()
        audit.called_back(self.journals)["ash-2"].clear()
        self.test_history()
        self.test_parts()
        self.test_holders()
        self.test_called_back()

    def test_nothing_at_all(self):
        for journals in ({}, {"ash": ""}, {"ash": "", "bay": "use"}):
            self.assertEqual([function(journals) for function in WITHOUT_THING], [{}, [], {}, (0, 0, 0), []])
            for function in WITH_THING:
                self.assertRaises(UnknownThing, function, journals, "ash-1")


class UnderWayTest(unittest.TestCase):
    def test_each_place_of_a_giving(self):
        world = led(["ash", "bay"], ("create", "ash", 40), ("give", "ash", "ash-1", "bay"))
        away = [(1, "ash", None, "given"), (2, "bay", "ash", "under way")]
        self.assertEqual(audit.history(journals_of(world), "ash-1"), away)
        self.assertEqual(audit.holders(journals_of(world)), {"ash-1": ("under way", "bay", 2)})
        world.net.take(0)
        self.assertEqual(audit.history(journals_of(world), "ash-1"), away)
        world.tick("ash")
        world.deliver(0)
        there = [(1, "ash", None, "given"), (2, "bay", "ash", "held")]
        self.assertEqual(audit.history(journals_of(world), "ash-1"), there)
        world.give("bay", "ash-1", "ash")
        back = there[:1] + [(2, "bay", "ash", "given"), (3, "ash", "bay", "under way")]
        self.assertEqual(audit.history(journals_of(world), "ash-1"), back)
        world.calm()
        world.use("ash", "ash-1")
        self.assertEqual(audit.history(journals_of(world), "ash-1"), back[:2] + [(3, "ash", "bay", "used")])
        self.assertEqual(audit.holders(journals_of(world)), {"ash-1": ("used", "ash", 3)})

    def test_a_long_way(self):
        world = led(["ash", "bay", "cob"], ("create", "ash", 40))
        expected = []
        sender = None
        for epoch in range(1, 31):
            name = ["ash", "bay", "cob"][(epoch - 1) % 3]
            expected.append((epoch, name, sender, "given"))
            world.give(name, "ash-1", ["ash", "bay", "cob"][epoch % 3])
            sender = name
            if epoch < 30:
                world.calm()
        self.assertEqual(audit.history(journals_of(world), "ash-1"), expected + [(31, "ash", "cob", "under way")])


class OrderTest(unittest.TestCase):
    def test_ascending_numbers_and_makers(self):
        world = led(["zed", "ash", "b"], *[("create", "zed", 1)] * 3, *[("create", "ash", 2)] * 12, ("create", "b", 3))
        for number in (12, 10, 2, 1, 11):
            world.use("ash", f"ash-{number}")
        world.recall("ash", "ash-10")
        for number in (3, 2):
            world.recall("zed", f"zed-{number}")
        world.recall("ash", "ash-3")
        world.recall("b", "b-1")
        journals = journals_of(world)
        things = [f"ash-{number}" for number in range(1, 13)] + ["b-1", "zed-1", "zed-2", "zed-3"]
        self.assertEqual(list(audit.holders(journals)), things)
        self.assertEqual([claim[0] for claim in audit.claims(journals)], ["ash-1", "ash-2", "ash-10", "ash-11", "ash-12"])
        self.assertEqual(list(audit.called_back(journals)), ["ash-3", "ash-10", "b-1", "zed-2", "zed-3"])

    def test_ascending_parts(self):
        world = led(["ash", "bay"], ("create", "ash", 40), ("split", "ash", "ash-1", [1] * 10 + [30]))
        made = [f"ash-{number}" for number in range(2, 13)]
        self.assertEqual(audit.parts(journals_of(world), "ash-1"), ([], made))
        world.join("ash", ["ash-10", "ash-9", "ash-2", "ash-12"])
        self.assertEqual(audit.parts(journals_of(world), "ash-13"), (["ash-1", "ash-2", "ash-9", "ash-10", "ash-12"], []))

    def test_names_of_call_backs_are_in_ascending_order(self):
        world = led(["zed", "cob", "ash"], ("create", "zed", 4), ("give", "zed", "zed-1", "cob"), ("calm",),
                    ("give", "cob", "zed-1", "ash"), ("calm",), ("recall", "zed", "zed-1"), ("calm",))
        self.assertEqual(audit.called_back(journals_of(world)), {"zed-1": ["ash", "cob", "zed"]})


class RunsTest(unittest.TestCase):
    def check(self, journals, things):
        kept = dict(journals)
        self.assertEqual(audit.faults(journals), [])
        self.assertEqual(list(audit.holders(journals).items()), plain_audit.holders(journals))
        self.assertEqual(audit.claims(journals), plain_audit.claims(journals))
        self.assertEqual(list(audit.called_back(journals).items()), plain_audit.called_back(journals))
        told = audit.totals(journals)
        self.assertEqual(told, plain_audit.totals(journals))
        self.assertEqual(told[0], told[1] + told[2])
        for thing in things:
            self.assertEqual(audit.history(journals, thing), plain_audit.history(journals, thing))
            self.assertEqual(audit.parts(journals, thing), plain_audit.parts(journals, thing))
        self.assertEqual(list(journals.items()), list(kept.items()))

    def test_worlds_at_every_moment(self):
        for seed in range(40):
            rng = random.Random(seed)
            for _, (world,), _ in leading.run(rng, NAMES[:1 + seed % 4], 60):
                journals = torn(rng, journals_of(world))
                made = plain_audit.made_things(journals)
                self.check(journals, rng.sample(made, min(3, len(made))))

    def test_worlds_at_the_end(self):
        for seed in range(500, 560):
            rng = random.Random(seed)
            world = leading.world_after(rng, NAMES, 60)
            journals = torn(rng, journals_of(world))
            names = list(journals)
            rng.shuffle(names)
            journals = {name: journals[name] for name in names}
            self.check(journals, plain_audit.made_things(journals))


class ErrorsTest(unittest.TestCase):
    JOURNALS = {
        "cob": "register cob-1 5\n",
        "ash": "register ash-1 40\ngive ash-1 2 bay\nregister ash-2 9\n",
        "bay": "got ash-1 ash 40 2 ash\nnotice cob-7 cob\n",
    }

    def test_unknown_things(self):
        for thing in ("ash-3", "bay-1", "cob-7", "cob-2", "zed-1", "ash", "", "ash-01"):
            for function in WITH_THING:
                with self.assertRaises(UnknownThing, msg=thing) as caught:
                    function(self.JOURNALS, thing)
                self.assertIsInstance(caught.exception, HeldError)
        self.assertEqual(list(audit.holders(self.JOURNALS)), ["ash-1", "ash-2", "cob-1"])

    def check_invalid(self, journals, number):
        kept = dict(journals)
        calls = [(function, (journals,)) for function in WITHOUT_THING]
        calls += [(function, (journals, thing)) for function in WITH_THING for thing in ("ash-1", "zed-9")]
        for function, words in calls:
            with self.assertRaises(InvalidLine, msg=function) as caught:
                function(*words)
            self.assertEqual(caught.exception.line, number, function)
        self.assertEqual(list(journals.items()), list(kept.items()))

    def test_invalid_lines(self):
        for line in ("", "nonsense", "use", "use ash-1 ", "register ash-3 0", "register ash-3 1000000001", "give ash-2 2 Bay",
                     "join ash-3 ash-2", "split ash-2 ash-3 9", "use ash-02"):
            for name, lines in (("ash", 3), ("bay", 2), ("cob", 1)):
                text = self.JOURNALS[name] + line + "\n"
                self.check_invalid({**self.JOURNALS, name: text}, lines + 1)
                self.check_invalid({**self.JOURNALS, name: text + "nonsense\n" * 3 + "use"}, lines + 1)
                for function in WITHOUT_THING:
                    function({**self.JOURNALS, name: self.JOURNALS[name] + line})

    def test_the_first_office_in_ascending_order_tells(self):
        journals = {name: self.JOURNALS[name] + "nonsense\n" for name in self.JOURNALS}
        self.check_invalid(journals, 4)
        journals["ash"] = self.JOURNALS["ash"]
        self.check_invalid(journals, 3)
        journals["bay"] = self.JOURNALS["bay"] + "nonsense"
        self.check_invalid(journals, 2)

    def test_ahead_of_lines_that_do_not_fit(self):
        self.check_invalid({"ash": "use ash-9\n", "bay": "use ash-9\nnonsense\n"}, 2)


if __name__ == "__main__":
    unittest.main()
