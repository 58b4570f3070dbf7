"""The net (point 2.1)."""

import unittest
from itertools import product

from letterheld.errors import HeldError, NoLetter
from letterheld.net import Net

DEED = ("deed", "ash", "bay", "ash-1", "ash", 40, 2)
RECEIPT = ("receipt", "bay", "ash", "ash-1", 2)
NOTICE = ("notice", "ash", "bay", "ash-1")
PLACES = [-2, -1, 0, 1, 2]
STEPS = [("send", None)] + [(word, place) for word in ("take", "double") for place in PLACES]


def letter_at(step):
    """A letter of its own for each step, so that the order of the letters shows."""
    return ("receipt", "bay", "ash", "ash-1", step + 1)


class NetTest(unittest.TestCase):
    def net_with(self, letters):
        net = Net()
        for letter in letters:
            self.assertIsNone(net.send(letter))
        return net

    def check_no_letter(self, net, place):
        before = net.letters()
        for action in (net.take, net.double):
            with self.assertRaises(NoLetter) as caught:
                action(place)
            self.assertIsInstance(caught.exception, HeldError)
            self.assertEqual(net.letters(), before)

    def test_empty(self):
        net = Net()
        self.assertEqual(net.letters(), [])
        for place in (-1, 0, 1):
            self.check_no_letter(net, place)

    def test_order(self):
        letters = [DEED, RECEIPT, NOTICE, DEED, RECEIPT]
        self.assertEqual(self.net_with(letters).letters(), letters)

    def test_take_from_each_place(self):
        letters = [DEED, RECEIPT, NOTICE, DEED]
        for place, letter in enumerate(letters):
            net = self.net_with(letters)
            self.assertEqual(net.take(place), letter)
            self.assertEqual(net.letters(), letters[:place] + letters[place + 1:])

    def test_double_each_place(self):
        letters = [DEED, RECEIPT, NOTICE, DEED]
        for place, letter in enumerate(letters):
            net = self.net_with(letters)
            self.assertIsNone(net.double(place))
            self.assertEqual(net.letters(), letters + [letter])

    def test_no_letter(self):
        letters = [DEED, RECEIPT, NOTICE]
        for many in range(4):
            net = self.net_with(letters[:many])
            for place in (-1000000000, -many - 1, -many, -1, many, many + 1, 1000000000):
                if place < 0 or place >= many:
                    self.check_no_letter(net, place)
            self.assertEqual(net.letters(), letters[:many])

    def test_letters_is_a_new_list(self):
        net = self.net_with([DEED, RECEIPT])
        early = net.letters()
        net.send(NOTICE)
        net.double(0)
        net.take(1)
        self.assertEqual(early, [DEED, RECEIPT])
        early.clear()
        self.assertEqual(net.letters(), [DEED, NOTICE, DEED])

    def test_nets_are_apart(self):
        first, second = Net(), Net()
        first.send(DEED)
        self.assertEqual(second.letters(), [])

    def test_all_short_runs(self):
        for many in range(5):
            for steps in product(STEPS, repeat=many):
                self.run_steps([("send", None)] + list(steps))

    def run_steps(self, steps):
        """Compare the net with a plain list, step by step."""
        net, model, told = Net(), [], []
        for number, (word, place) in enumerate(steps):
            told.append((net.letters(), list(model)))
            if word == "send":
                net.send(letter_at(number))
                model = model + [letter_at(number)]
            elif not 0 <= place < len(model):
                self.assertRaises(NoLetter, getattr(net, word), place)
            elif word == "take":
                self.assertEqual(net.take(place), model[place])
                model = model[:place] + model[place + 1:]
            else:
                net.double(place)
                model = model + [model[place]]
            self.assertEqual(net.letters(), model)
        for early, expected in told:
            self.assertEqual(early, expected)


if __name__ == "__main__":
    unittest.main()
