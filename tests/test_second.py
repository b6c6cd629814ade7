"""The program against the second telling of the document, on many lines, and what holds of plays."""

import random
import unittest
from itertools import combinations, product

from tests.helper import GREATEST, Second, ask, last, second

WORDS = ("at names name place place ring sees view set set set set rule next next go go go go "
         "against help run runhelped back back past past begin rest rest sure sure longest longest soonest soonest "
         "mark mark mark unmark markapart marks good good ifset ifset found take best why eyesenough allat "
         "told told").split()
BEGINS = [(n, e, k, a) for n, e, k, a in product(range(3, 8), range(3), range(1, 4), range(3))]


def groups_of(names):
    """List all groups of so many names."""
    return [group for size in range(names + 1) for group in combinations(range(names), size)]


def some(chance, least, most):
    """Tell a number that is let, or seldom one that isn't."""
    return chance.choice([chance.randint(least, most)] * 12 + [most + 1, GREATEST])


def some_call(chance):
    """Tell any call."""
    word = chance.choice(WORDS)
    if word == "begin":
        numbers = [some(chance, 3, 7), some(chance, 0, 2), some(chance, 1, 3), some(chance, 0, 2)]
    elif word in ("name", "place", "go", "mark", "unmark"):
        numbers = [some(chance, 0, 7)]
    elif word == "view":
        numbers = [some(chance, 0, 15)]
    elif word in ("set", "ifset"):
        numbers = [some(chance, 0, 15), some(chance, 0, 2)]
    elif word in ("run", "runhelped"):
        numbers = [some(chance, 0, chance.choice([3, 60]))]
    elif word == "at":
        numbers = [some(chance, 0, 2)]
    else:
        numbers = []
    return " ".join([word] + [str(number) for number in numbers])


def some_rule(chance, told):
    """List calls that set a rule for the one who tells a second time, and set it there too."""
    calls = []
    for v, row in enumerate(told.all_views):
        # Most lead towards the others, so that many names gather surely.
        done = chance.choice([0, 0, 0, 1] if told.is_even(row) else [0, 1, 2, 2, 2, 2])
        if done:
            calls.append(f"set {v} {done}")
            told.answer(calls[-1])
    return calls


class Lines(unittest.TestCase):
    def test_lines_of_thirty_calls(self):
        chance = random.Random(20)
        for begin in BEGINS * 8:
            calls = ["begin {} {} {} {}".format(*begin)] + [some_call(chance) for i in range(29)]
            self.assertEqual(ask(*calls), second(*calls), calls)

    def test_lines_that_do_not_begin_at_once(self):
        chance = random.Random(21)
        for begin in BEGINS:
            calls = [some_call(chance) for i in range(29)]
            calls.insert(chance.randint(1, 9), "begin {} {} {} {}".format(*begin))
            self.assertEqual(ask(*calls), second(*calls), calls)

    def test_each_name_by_some_rules(self):
        chance = random.Random(22)
        for begin in BEGINS * 12:
            start = "begin {} {} {} {}".format(*begin)
            told = Second()
            told.answer(start)
            rule = some_rule(chance, told)
            for i in range(len(told.all_names)):
                calls = [start, *rule, f"place {i}", "next", "rest", "sure", "longest", "soonest", "against", "back",
                         "help", "past"]
                self.assertEqual(ask(*calls), second(*calls), calls)

    def test_any_marked_names(self):
        chance = random.Random(24)
        for n, e, k, a in BEGINS:
            if k == 3 and n > 5:
                continue
            start = f"begin {n} {e} {k} {a}"
            groups = groups_of(last(start, "names")[0])
            for group in groups if len(groups) < 32 else chance.sample(groups, 8):
                calls = [start] + [f"mark {i}" for i in group]
                calls += ["marks", "found", "best", "why", "eyesenough", "allat", "take", "good"]
                self.assertEqual(ask(*calls), second(*calls), calls)


def plays_from(name, follow, ahead=()):
    """List all plays from a name as tuples of names, each till it comes round or nothing may come."""
    play = ahead + (name,)
    if name in ahead or not follow[name]:
        return [play]
    return [longer for other in follow[name] for longer in plays_from(other, follow, play)]


class WhatHolds(unittest.TestCase):
    def some_rules(self, seed, times):
        """List begins, each with calls that set some rule, and how many names there are."""
        chance = random.Random(seed)
        for begin in BEGINS * times:
            told = Second()
            start = "begin {} {} {} {}".format(*begin)
            told.answer(start)
            yield [start] + some_rule(chance, told), len(told.all_names)

    def test_plays_are_as_long_as_told(self):
        gathered = 0
        for start, names in self.some_rules(23, 6):
            for i in range(names):
                told = ask(*start, f"place {i}", "sure", "longest", "soonest", "run 60", "rest", f"place {i}",
                           "runhelped 60", "rest")[len(start) + 1:]
                (sure,), (longest,), (soonest,), against, (rests,), placed, helped, (rests_helped,) = told
                self.assertEqual(sure, int(longest >= 0))
                self.assertEqual([against[2], helped[2]], [rests, rests_helped])
                self.assertEqual([sure, int(soonest >= 0)], [rests, rests_helped])
                if sure:
                    self.assertEqual(against, [longest, 0, 1])
                    gathered += longest > 1
                if soonest >= 0:
                    self.assertEqual(helped, [soonest, 0, 1])
        # Else the rules were such that this tells little.
        self.assertGreater(gathered, 20)

    def test_no_play_has_more_moves_than_told(self):
        for start, names in self.some_rules(25, 4):
            follow = [last(*start, f"place {i}", "next")[1:] for i in range(names)]
            resting = [last(*start, f"place {i}", "rest") == [1] for i in range(names)]
            for i in range(names):
                (longest,), (soonest,) = ask(*start, f"place {i}", "longest", "soonest")[-2:]
                plays = plays_from(i, follow)
                ends = [len(play) - 1 for play in plays if resting[play[-1]]]
                self.assertEqual(longest, max(ends) if len(ends) == len(plays) else -33, (start, i))
                self.assertEqual(soonest, min(ends, default=-33), (start, i))

    def test_behind_take_each_marked_name_gathers_surely(self):
        taken = 0
        for n, e, k, a in BEGINS:
            names = last(f"begin {n} {e} {k} {a}", "names")[0]
            for group in groups_of(names) if names < 5 else [(0, 1, 2, 3, 4), (3, 4), (2,)]:
                start = [f"begin {n} {e} {k} {a}"] + [f"mark {i}" for i in group] + ["take"]
                told = ask(*start, "good", *[word for i in group for word in (f"place {i}", "sure")])
                if told[len(start) - 1] == [0]:
                    self.assertEqual(told[len(start)], [len(group), len(group)])
                    self.assertEqual(told[len(start) + 2::2], [[1]] * len(group))
                    taken += 1
        self.assertGreater(taken, 200)

    def test_a_move_taken_back_leaves_what_was(self):
        probes = ["ring", "past", "told", "rule", "next", "rest", "sure", "longest", "soonest", "good"]
        for start, names in self.some_rules(26, 1):
            for move in ("against", "help", "runhelped 1"):
                calls = start + [f"place {names - 1}"]
                if last(*calls, "next") != [0]:
                    self.assertEqual(ask(*calls, move, "back", *probes)[-10:], ask(*calls, *probes)[-10:])

    def test_with_better_eyes_some_rule_is_good_if_one_is_with_worse(self):
        for n, k, a in product(range(3, 8), range(1, 4), range(3)):
            if k == 3 and n > 5:
                continue
            for group in groups_of(last(f"begin {n} 0 {k} {a}", "names")[0]):
                marks = [f"mark {i}" for i in group]
                if n == 5 and k == 3 and len(group) not in (1, 5):
                    continue
                good = [last(f"begin {n} {e} {k} {a}", *marks, "found")[0] > 0 for e in range(3)]
                self.assertEqual(good, sorted(good, reverse=True))
                enough = last(f"begin {n} 0 {k} {a}", *marks, "eyesenough")
                self.assertEqual(enough, [max([e for e in range(3) if good[e]], default=-33)])


if __name__ == "__main__":
    unittest.main()
