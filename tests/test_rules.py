"""set and rule: what a rule tells of each view, and which way it leads."""

import unittest

from tests.helper import GREATEST, ask, last


class Set(unittest.TestCase):
    def test_it_tells_what_the_rule_told(self):
        calls = ["begin 4 0 2 0", "set 0 2", "set 0 1", "set 0 0", "set 0 0", "set 1 1", "set 1 0"]
        self.assertEqual(ask(*calls)[1:], [[0], [2], [1], [0], [0], [1]])

    def test_the_rule_tells_it_of_that_view_alone(self):
        calls = ["begin 4 0 2 0", "rule", "set 0 2", "rule", "set 2 1", "rule", "set 0 1", "rule"]
        self.assertEqual(ask(*calls)[1::2], [[3, 0, 0, 0], [3, 2, 0, 0], [3, 2, 0, 1], [3, 1, 0, 1]])

    def test_no_such_view(self):
        for v in (3, GREATEST):
            self.assertEqual(ask("begin 4 0 2 0", f"set {v} 0", "rule")[1:], [[-2], [3, 0, 0, 0]])

    def test_what_is_done_is_2_at_the_most(self):
        for m in (3, GREATEST):
            for v in range(3):
                self.assertEqual(ask("begin 4 0 2 0", "set 0 1", f"set {v} {m}", "rule")[2:],
                                 [[-22], [3, 1, 0, 0]])

    def test_what_is_done_of_an_even_handed_view_is_1_at_the_most(self):
        calls = ["begin 4 0 2 0", "set 1 2", "set 2 2", "set 0 2", "rule", "set 1 1", "set 2 1", "rule"]
        self.assertEqual(ask(*calls)[1:], [[-22], [-22], [0], [3, 2, 0, 0], [0], [0], [3, 2, 1, 1]])

    def test_no_such_view_comes_first(self):
        for v in (3, GREATEST):
            for m in (2, 3, GREATEST):
                self.assertEqual(last("begin 4 0 2 0", f"set {v} {m}"), [-2])

    def test_one_robot_is_even_handed(self):
        self.assertEqual(ask("begin 7 0 1 0", "set 0 2", "set 0 1", "rule")[1:], [[-22], [0], [1, 1]])

    def test_the_ring_and_what_came_stay(self):
        calls = ["begin 4 0 2 0", "set 2 1", "go 1", "set 2 0", "set 0 1", "past", "ring", "next"]
        self.assertEqual(ask(*calls)[5:], [[2, 0, 1], [1, 0, 0, 1, 1], [1, 2]])


class WhatItMeans(unittest.TestCase):
    def after(self, begin, place, told, moves):
        return last(f"{begin} {moves}", f"place {place}", told, "next")

    def test_0_is_stay(self):
        for moves in range(3):
            self.assertEqual(self.after("begin 5 0 2", 2, "set 1 0", moves), [0])

    def test_1_is_by_the_side_of_the_lesser_row(self):
        # 00011 in a ring of five: the lesser row 10001 goes away from the other one.
        self.assertEqual(self.after("begin 5 0 2", 1, "set 0 1", 0), [1, 2])
        # 0000101: 1000010 goes away from the other one, to 0001001.
        self.assertEqual(self.after("begin 7 0 2", 2, "set 1 1", 0), [1, 3])

    def test_2_is_by_the_other_side(self):
        self.assertEqual(self.after("begin 5 0 2", 1, "set 0 2", 0), [1, 0])
        self.assertEqual(self.after("begin 7 0 2", 2, "set 1 2", 0), [1, 1])

    def test_1_is_by_either_side_of_an_even_handed_view(self):
        # 01011: the one at place 1 is even-handed; by either side it comes to stand beside the others.
        self.assertEqual(self.after("begin 5 0 3", 4, "set 4 1", 0), [1, 3])
        # 0101: both are even-handed; they meet, or are across from each other again.
        self.assertEqual(self.after("begin 4 0 2", 2, "set 1 1", 2), [2, 0, 2])
        # 0002: the two go by the same side, or each by another one.
        self.assertEqual(self.after("begin 4 0 2", 0, "set 2 1", 2), [2, 0, 2])

    def test_what_is_told_of_other_views_is_not_done(self):
        calls = ["begin 4 0 3 2", "set 0 1", "set 4 1", "set 6 1", "place 3", "next"]
        self.assertEqual(last(*calls), [0])


if __name__ == "__main__":
    unittest.main()
