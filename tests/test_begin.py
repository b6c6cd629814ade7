"""begin and at, and what is answered ahead of a begin."""

import unittest

from tests.helper import ARGUMENTS, GREATEST, NUMBERS, ask, last

PROBES = ("names", "rule", "ring", "past", "next", "sees", "marks", "told", "good", "sure", "best", "at 0")


class AheadOfBegin(unittest.TestCase):
    def test_every_other_call_is_refused(self):
        for word in NUMBERS:
            if word == "begin":
                continue
            for number in ("0", str(GREATEST)):
                call = " ".join([word] + [number] * ARGUMENTS.get(word, 0))
                with self.subTest(call):
                    self.assertEqual(ask(call, "begin 4 0 2 0"), [[-11], [3]])

    def test_it_comes_ahead_of_all_other_refusals(self):
        calls = ["at 3", "name 99", "place 99", "view 99", "set 99 9", "go 99", "run 61", "runhelped 61", "back",
                 "mark 99", "unmark 99", "ifset 99 9", "longest", "soonest", "why", "take"]
        self.assertEqual(ask(*calls), [[-11]] * len(calls))

    def test_a_refused_begin_is_none(self):
        self.assertEqual(ask("begin 2 0 2 0", "ring", "begin 4 0 2 0", "ring"),
                         [[-22], [-11], [3], [0, 0, 0, 0, 2]])


class Begin(unittest.TestCase):
    def test_it_tells_how_many_views_there_are(self):
        views = {
            (0, 1): [1, 1, 1, 1, 1], (0, 2): [2, 3, 3, 4, 4], (0, 3): [4, 7, 9, 13, 16],
            (1, 1): [1, 1, 1, 1, 1], (1, 2): [2, 3, 3, 4, 4], (1, 3): [4, 7, 9, 13, 16],
            (2, 1): [1, 1, 1, 1, 1], (2, 2): [2, 3, 3, 4, 4], (2, 3): [3, 5, 7, 10, 13],
        }
        for (eyes, robots), counts in views.items():
            for places, count in zip(range(3, 8), counts):
                for moves in range(3):
                    call = f"begin {places} {eyes} {robots} {moves}"
                    with self.subTest(call):
                        self.assertEqual(last(call), [count])

    def test_places_are_three_to_seven(self):
        for places in (0, 1, 2, 8, 9, GREATEST):
            self.assertEqual(last(f"begin {places} 0 2 0"), [-22])

    def test_eyes_are_two_at_the_most(self):
        for eyes in (3, 4, GREATEST):
            self.assertEqual(last(f"begin 4 {eyes} 2 0"), [-22])

    def test_robots_are_one_to_three(self):
        for robots in (0, 4, 5, GREATEST):
            self.assertEqual(last(f"begin 4 0 {robots} 0"), [-22])

    def test_moves_are_two_at_the_most(self):
        for moves in (3, 4, GREATEST):
            self.assertEqual(last(f"begin 4 0 2 {moves}"), [-22])

    def test_all_wrong_at_once(self):
        self.assertEqual(last(f"begin {GREATEST} {GREATEST} {GREATEST} {GREATEST}"), [-22])

    def test_the_rule_tells_stay_and_the_ring_is_name_0(self):
        self.assertEqual(ask("begin 5 1 3 1", "rule", "ring", "past", "next", "back"),
                         [[9], [9] + [0] * 9, [0, 0, 0, 0, 0, 3], [1, 0], [0], [-6]])

    def test_a_second_begin_starts_anew(self):
        played = ["begin 4 0 2 0", "set 2 1", "against", "at 1", "mark 2", "allat", "past"]
        self.assertEqual(ask(*played)[-1], [2, 0, 1])
        again = ask(*played, "begin 5 2 3 2", *PROBES)[len(played):]
        self.assertEqual(again, [[7], [5], [7] + [0] * 7, [0, 0, 0, 0, 0, 3], [1, 0], [0], [1, 0], [0],
                                 [5, 2, 3, 2, 0, 1], [0, 0], [1], [0] * 8, [2]])
        same = ask(*played, "begin 4 0 2 0", *PROBES)[len(played):]
        self.assertEqual(same, ask("begin 4 0 2 0", *PROBES))

    def test_a_refused_begin_leaves_all_as_it_was(self):
        played = ["begin 4 0 2 1", "set 2 1", "set 0 2", "against", "go 0", "mark 2"]
        for refused in ("begin 2 0 1 0", "begin 8 0 1 0", "begin 3 3 1 0", "begin 3 0 0 0", "begin 3 0 4 0",
                        "begin 3 0 1 3", f"begin {GREATEST} 0 1 0"):
            with self.subTest(refused):
                told = ask(*played, refused, *PROBES)
                self.assertEqual(told[len(played)], [-22])
                self.assertEqual(told[len(played) + 1:], ask(*played, *PROBES)[len(played):])


class At(unittest.TestCase):
    def test_it_tells_how_moves_were(self):
        self.assertEqual(ask("begin 4 0 2 1", "at 2", "at 0", "at 0", "at 1"), [[3], [1], [2], [0], [0]])

    def test_moves_are_so_then(self):
        calls = ["begin 4 0 2 0", "set 1 1", "place 2", "next", "at 1", "next", "at 2", "next"]
        self.assertEqual(ask(*calls)[3:], [[1, 1], [0], [3, 0, 1, 2], [1], [2, 0, 2]])

    def test_moves_are_two_at_the_most(self):
        for moves in (3, GREATEST):
            self.assertEqual(ask("begin 4 0 2 1", f"at {moves}", "at 0"), [[3], [-22], [1]])

    def test_it_leaves_the_rest_as_it_was(self):
        calls = ["begin 4 0 2 0", "set 2 1", "go 1"]
        kept = ["rule", "ring", "past"]
        self.assertEqual(ask(*calls, "at 2", *kept)[-3:], ask(*calls, *kept)[-3:])


if __name__ == "__main__":
    unittest.main()
