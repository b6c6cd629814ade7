"""rest, sure, longest and soonest: whether the ring gathers, and in how many moves."""

import unittest

from tests.helper import ask

ALL = ("rest", "sure", "longest", "soonest")
# Two on four places, one goes: across from each other they come to be side by side, then meet.
MEET = ["begin 4 0 2 0", "set 0 2", "set 1 1"]
# Of 0002 one goes beside the other, then away, then back, and so on.
ROUND = ["begin 4 0 2 0", "set 0 1", "set 1 1", "set 2 1"]
# The ends of 0111 go to the midst, the one of 0012 to the two; some go.
ENDS = ["begin 4 0 3 1", "set 0 2", "set 1 2"]


def told(*calls):
    """Tell what rest, sure, longest and soonest answer behind these calls."""
    return [given[0] for given in ask(*calls, *ALL)[-4:]]


class Gathering(unittest.TestCase):
    def test_at_rest_together(self):
        for robots in (1, 2, 3):
            for moves in range(3):
                self.assertEqual(told(f"begin 5 1 {robots} {moves}"), [1, 1, 0, 0])

    def test_nobody_is_eager_and_they_are_not_together(self):
        for place in (1, 2):
            self.assertEqual(told("begin 4 0 2 0", f"place {place}"), [0, 0, -33, -33])

    def test_all_at_one_place_and_eager(self):
        for moves in range(3):
            self.assertEqual(told(f"begin 4 0 2 {moves}", "set 2 1"), [0, 0, -33, -33])
            self.assertEqual(told(f"begin 4 0 3 {moves}", "set 6 1", "set 0 2", "set 1 2"), [0, 0, -33, -33])

    def test_one_robot(self):
        self.assertEqual(told("begin 7 2 1 1"), [1, 1, 0, 0])
        self.assertEqual(told("begin 7 2 1 1", "set 0 1"), [0, 0, -33, -33])

    def test_they_meet(self):
        self.assertEqual(told(*MEET, "place 0"), [1, 1, 0, 0])
        self.assertEqual(told(*MEET, "place 1"), [0, 1, 1, 1])
        self.assertEqual(told(*MEET, "place 2"), [0, 1, 2, 2])

    def test_two_across_from_each_other(self):
        # Both go at once, and may be across from each other again.
        for moves in (1, 2):
            self.assertEqual(told(*MEET, f"at {moves}", "place 2"), [0, 0, -33, 1])

    def test_the_most_moves_and_the_fewest(self):
        # The ends of 0111 go at once, or one behind the other.
        self.assertEqual(told(*ENDS, "place 3"), [0, 1, 2, 1])
        self.assertEqual(told(*ENDS, "at 0", "place 3"), [0, 1, 2, 2])
        self.assertEqual(told(*ENDS, "at 2", "place 3"), [0, 1, 1, 1])

    def test_the_most_moves_are_those_by_the_worst_choices(self):
        # 00102 comes to 00012, then they meet; or to 00111, of which the ends go one behind the other.
        calls = ["begin 5 0 3 1", "set 0 2", "set 1 2", "set 7 2", "place 2"]
        self.assertEqual(told(*calls), [0, 1, 3, 2])
        calls = ["begin 5 0 3 0", "set 0 2", "set 1 2", "set 2 2", "set 3 2", "set 4 1", "set 5 1", "place 4"]
        self.assertEqual(told(*calls), [0, 1, 4, 3])

    def test_they_may_meet_but_not_surely(self):
        # Side by side, both may go at once, and change places for ever.
        self.assertEqual(told("begin 4 0 2 1", "set 0 2", "place 1"), [0, 0, -33, 1])
        # Of 001001 some go: they come nearer, or to 000011, where they stay, apart.
        self.assertEqual(told("begin 6 0 2 1", "set 1 2", "set 2 1", "place 3"), [0, 0, -33, 2])

    def test_what_comes_to_what_is_not_sure_is_not_sure(self):
        # 00101 comes to 00011, where they change places for ever.
        self.assertEqual(told("begin 5 0 2 1", "set 0 2", "set 1 1", "place 2"), [0, 0, -33, 2])

    def test_a_play_that_goes_round(self):
        for place in range(3):
            self.assertEqual(told(*ROUND, f"place {place}"), [0, 0, -33, -33])
        self.assertEqual(told(*ROUND, "run 60"), [0, 0, -33, -33])

    def test_they_change_places_for_ever(self):
        self.assertEqual(told("begin 4 0 2 2", "set 0 2", "place 1"), [0, 0, -33, -33])

    def test_a_rule_changed_in_the_midst_of_a_play(self):
        calls = [*ROUND, "run 5", "sure", "set 2 0", "sure", "set 0 2", "sure", "longest", "set 2 1", "longest"]
        self.assertEqual([ask(*calls)[i] for i in (5, 7, 9, 10, 12)], [[0], [0], [1], [1], [-33]])

    def test_the_moves_of_now_count(self):
        calls = ["begin 4 0 2 0", "set 0 2", "place 1", "sure", "at 1", "sure", "soonest", "at 2", "sure", "soonest"]
        told_so = ask(*calls)
        self.assertEqual([told_so[i] for i in (3, 5, 6, 8, 9)], [[1], [0], [1], [0], [-33]])

    def test_they_follow_the_play(self):
        calls = [*ENDS, "place 3", "longest", "go 1", "longest", "go 0", "longest", "rest", "back", "longest", "back",
                 "longest"]
        self.assertEqual([ask(*calls)[i] for i in (4, 6, 8, 9, 11, 13)], [[2], [1], [0], [1], [1], [2]])

    def test_they_change_nothing(self):
        calls = [*ENDS, "mark 3", "place 3", "go 1"]
        probes = ["told", "ring", "rule", "marks", "past", "next"]
        self.assertEqual(ask(*calls, *ALL, *probes)[10:], ask(*calls, *probes)[6:])


if __name__ == "__main__":
    unittest.main()
