"""back and past: moves taken back, and how many names are kept."""

import unittest

from tests.helper import ask, last

# Of 0002 one goes beside the other, then away, then back, and so on: 0, 1, 2, 1, 2 ..
ROUND = ["begin 4 0 2 0", "set 0 1", "set 1 1", "set 2 1"]


class Back(unittest.TestCase):
    def test_it_tells_which_name_was_ahead(self):
        self.assertEqual(ask(*ROUND, "run 3", "back", "back", "back", "past")[5:], [[2], [1], [0], [1, 0]])

    def test_just_one_name_is_told(self):
        self.assertEqual(ask("begin 4 0 2 0", "back", "place 2", "back", "past", "ring")[1:],
                         [[-6], [0], [-6], [1, 2], [2, 0, 1, 0, 1]])

    def test_back_to_where_it_was_placed_and_no_further(self):
        calls = ["begin 4 0 2 0", "set 2 1", "go 1", "place 2", "set 1 1", "go 1", "back", "back", "past"]
        self.assertEqual(ask(*calls)[6:], [[2], [-6], [1, 2]])

    def test_a_move_taken_back_leaves_what_was(self):
        probes = ["ring", "past", "next", "sees", "rule", "told", "marks", "good", "rest", "sure", "longest", "soonest",
                  "at 0"]
        for move in ("go 1", "against", "help", "run 1", "runhelped 1"):
            with self.subTest(move):
                self.assertEqual(ask(*ROUND, move, "back", *probes)[6:], ask(*ROUND, *probes)[4:])

    def test_the_rule_is_not_taken_back(self):
        self.assertEqual(ask(*ROUND, "go 1", "set 0 2", "at 2", "back", "rule", "at 0")[7:],
                         [[0], [3, 2, 1, 1], [2]])

    def test_other_moves_may_follow(self):
        calls = ["begin 4 0 2 1", "set 2 1", "go 1", "back", "go 2", "past", "back", "go 0", "past"]
        self.assertEqual(ask(*calls)[2:], [[2], [0], [2], [2, 0, 2], [0], [2], [2, 0, 0]])


class Past(unittest.TestCase):
    def test_names_in_order_from_the_one_placed_on(self):
        self.assertEqual(ask(*ROUND, "past", "go 1", "go 2", "go 1", "past")[4:],
                         [[1, 0], [2], [3], [4], [4, 0, 1, 2, 1]])
        self.assertEqual(last(*ROUND, "run 9", "place 2", "go 1", "past"), [2, 2, 1])

    def test_a_refused_call_adds_none(self):
        self.assertEqual(last(*ROUND, "go 2", "go 9", "run 61", "runhelped 61", "back", "past"), [1, 0])

    def test_sixty_names_are_kept(self):
        self.assertEqual(last(*ROUND, "run 59", "past"), [60, 0] + [1, 2] * 29 + [1])

    def test_the_first_is_forgotten_when_one_more_comes(self):
        self.assertEqual(ask(*ROUND, "run 60", "past")[4:], [[60, 2, 0], [60] + [1, 2] * 30])
        self.assertEqual(ask(*ROUND, "run 59", "go 2", "past")[5:], [[60], [60] + [1, 2] * 30])
        self.assertEqual(ask(*ROUND, "run 60", "go 1", "past")[5:], [[60], [60] + [2, 1] * 30])
        for one in ("against", "help"):
            self.assertEqual(ask(*ROUND, "runhelped 59", one, "past")[5:], [[2], [60] + [1, 2] * 30])

    def test_back_does_not_bring_it_again(self):
        self.assertEqual(ask(*ROUND, "run 60", "back", "past")[5:], [[1], [59] + [1, 2] * 29 + [1]])

    def test_back_beyond_what_is_kept(self):
        # 20 names are taken back and 20 come, so that in 30 calls it is seen that none was brought again.
        calls = [*ROUND, "run 60", *["back"] * 20, "past", "run 20", "past", "run 1", "past"]
        told = ask(*calls)
        self.assertEqual(told[5:25], [[1], [2]] * 10)
        self.assertEqual(told[25:], [[40] + [1, 2] * 20, [20, 2, 0], [60] + [1, 2] * 30, [1, 1, 0],
                                     [60] + [2, 1] * 30])


if __name__ == "__main__":
    unittest.main()
