"""The program against the second telling of the document, on many lines, and what holds of plays."""

import random
import unittest
from itertools import product

from tests.helper import GREATEST, Second, ask, second

WORDS = ("at names name place place ring sees view set set set set rule next next go go go go "
         "against help run runhelped back back past past begin").split()
BEGINS = [(n, e, k, a) for n, e, k, a in product(range(3, 8), range(3), range(1, 4), range(3))]


def some(chance, least, most):
    """Tell a number that is let, or seldom one that isn't."""
    return chance.choice([chance.randint(least, most)] * 12 + [most + 1, GREATEST])


def some_call(chance):
    """Tell any call."""
    word = chance.choice(WORDS)
    if word == "begin":
        numbers = [some(chance, 3, 7), some(chance, 0, 2), some(chance, 1, 3), some(chance, 0, 2)]
    elif word in ("name", "place", "go"):
        numbers = [some(chance, 0, 7)]
    elif word == "view":
        numbers = [some(chance, 0, 15)]
    elif word == "set":
        numbers = [some(chance, 0, 15), some(chance, 0, 2)]
    elif word in ("run", "runhelped"):
        numbers = [some(chance, 0, chance.choice([3, 60]))]
    elif word == "at":
        numbers = [some(chance, 0, 2)]
    else:
        numbers = []
    return " ".join([word] + [str(number) for number in numbers])


def some_rule(chance, told):
    """List calls that set a rule for the one who tells a second time, and set it there too."""
    calls = []
    for v, row in enumerate(told.all_views):
        # Most lead towards the others, so that many names gather surely.
        done = chance.choice([0, 0, 0, 1] if told.is_even(row) else [0, 1, 2, 2, 2, 2])
        if done:
            calls.append(f"set {v} {done}")
            told.answer(calls[-1])
    return calls


class Lines(unittest.TestCase):
    def test_lines_of_thirty_calls(self):
        chance = random.Random(20)
        for begin in BEGINS * 8:
            calls = ["begin {} {} {} {}".format(*begin)] + [some_call(chance) for i in range(29)]
            self.assertEqual(ask(*calls), second(*calls), calls)

    def test_lines_that_do_not_begin_at_once(self):
        chance = random.Random(21)
        for begin in BEGINS:
            calls = [some_call(chance) for i in range(29)]
            calls.insert(chance.randint(1, 9), "begin {} {} {} {}".format(*begin))
            self.assertEqual(ask(*calls), second(*calls), calls)

    def test_each_name_by_some_rules(self):
        chance = random.Random(22)
        for begin in BEGINS * 12:
            start = "begin {} {} {} {}".format(*begin)
            told = Second()
            told.answer(start)
            rule = some_rule(chance, told)
            for i in range(len(told.all_names)):
                calls = [start, *rule, f"place {i}", "next", "against", "back", "help", "past"]
                self.assertEqual(ask(*calls), second(*calls), calls)

class WhatHolds(unittest.TestCase):
    def test_plays_are_as_long_as_told(self):
        chance = random.Random(23)
        gathered = 0
        for begin in BEGINS * 6:
            start = "begin {} {} {} {}".format(*begin)
            told = Second()
            told.answer(start)
            rule = some_rule(chance, told)
            most, fewest = told.distances(True), told.distances(False)
            for i in range(len(told.all_names)):
                against, helped = ask(start, *rule, f"place {i}", "run 60", f"place {i}", "runhelped 60")[-3::2]
                if most[i] is None:
                    self.assertEqual(against[2], 0)
                else:
                    self.assertEqual(against, [most[i], 0, 1])
                    gathered += most[i] > 1
                if fewest[i] is None:
                    self.assertEqual(helped[2], 0)
                else:
                    self.assertEqual(helped, [fewest[i], 0, 1])
        # Else the rules were such that this tells little.
        self.assertGreater(gathered, 20)


if __name__ == "__main__":
    unittest.main()
