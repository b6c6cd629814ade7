"""next and go: which names may come by one move, of one, some or all of the eager."""

import unittest

from tests.helper import GREATEST, ask, last


def ahead(begin, place, *told):
    """Tell what next answers with moves of one, of some, and of all."""
    return [last(f"{begin} {moves}", f"place {place}", *told, "next") for moves in range(3)]


class Next(unittest.TestCase):
    def test_nobody_is_eager(self):
        for place in range(4):
            self.assertEqual(ahead("begin 4 0 3", place), [[0]] * 3)

    def test_one_robot(self):
        for places in range(3, 8):
            for eyes in range(3):
                self.assertEqual(ahead(f"begin {places} {eyes} 1", 0, "set 0 1"), [[1, 0]] * 3)

    def test_two_at_one_place_and_eager(self):
        # One leaves the other; or both go, by the same side or not.
        self.assertEqual(ahead("begin 3 0 2", 0, "set 1 1"), [[1, 1], [2, 0, 1], [2, 0, 1]])
        self.assertEqual(ahead("begin 4 0 2", 0, "set 2 1"), [[1, 1], [3, 0, 1, 2], [2, 0, 2]])
        self.assertEqual(ahead("begin 7 2 2", 0, "set 0 1"), [[1, 1], [3, 0, 1, 2], [2, 0, 2]])

    def test_three_at_one_place_and_eager(self):
        # Of 0003: one goes: 0012; two: 0012 or 0111; all: 0003 or 0102.
        self.assertEqual(ahead("begin 4 0 3", 0, "set 6 1"), [[1, 1], [4, 0, 1, 2, 3], [2, 0, 2]])

    def test_two_across_from_each_other(self):
        self.assertEqual(ahead("begin 4 0 2", 2, "set 1 1"), [[1, 1], [3, 0, 1, 2], [2, 0, 2]])
        self.assertEqual(ahead("begin 6 0 2", 3, "set 2 1"), [[1, 2], [3, 1, 2, 3], [2, 1, 3]])

    def test_two_side_by_side(self):
        # Both go to where the other one is, at once: they have only changed places.
        self.assertEqual(ahead("begin 4 0 2", 1, "set 0 2"), [[1, 0], [2, 0, 1], [1, 1]])
        self.assertEqual(ahead("begin 4 0 2", 1, "set 0 1"), [[1, 2], [2, 1, 2], [1, 1]])

    def test_those_at_one_place_are_chosen_one_by_one(self):
        # 0012: the two go to the one's place; one of them, or both.
        self.assertEqual(ahead("begin 4 0 3", 1, "set 4 2"), [[1, 1], [2, 0, 1], [1, 0]])

    def test_some_are_eager_and_some_are_not(self):
        # 0111: those at the ends go to the midst, who stays.
        self.assertEqual(ahead("begin 4 0 3", 3, "set 1 2"), [[1, 1], [2, 0, 1], [1, 0]])
        # The one in the midst goes to either of those at the ends, who stay.
        self.assertEqual(ahead("begin 4 0 3", 3, "set 3 1"), [[1, 2], [1, 2], [1, 2]])

    def test_they_look_first_then_go(self):
        # 0012: all go on by their lesser rows, each as it saw the others before anybody went.
        self.assertEqual(ahead("begin 4 0 3", 1, "set 0 1", "set 4 1"), [[2, 2, 3], [3, 1, 2, 3], [1, 1]])

    def test_what_eyes_cannot_tell_apart_is_done_alike(self):
        # 00012 with eyes 2: the one and the two have one view, and go towards each other.
        self.assertEqual(ahead("begin 5 2 3", 1, "set 1 2"), [[2, 0, 1], [2, 0, 1], [1, 1]])
        # With eyes 0 the one alone does.
        self.assertEqual(ahead("begin 5 0 3", 1, "set 0 2"), [[1, 0]] * 3)

    def test_eyes_1_tell_two_from_one_but_not_three_from_two(self):
        self.assertEqual(ahead("begin 5 1 3", 1, "set 0 2"), [[1, 0]] * 3)
        self.assertEqual(ahead("begin 3 1 3", 0, "set 2 1"), [[1, 1], [3, 0, 1, 2], [2, 0, 1]])

    def test_it_changes_nothing(self):
        calls = ["begin 4 0 2 1", "set 2 1", "next", "next", "ring", "past", "rule", "at 0"]
        self.assertEqual(ask(*calls)[2:],
                         [[3, 0, 1, 2], [3, 0, 1, 2], [0, 0, 0, 0, 2], [1, 0], [3, 0, 0, 1], [1]])

    def test_the_rule_of_now_counts(self):
        calls = ["begin 4 0 2 0", "set 2 1", "next", "go 1", "next", "set 0 1", "next", "go 2", "next",
                 "set 0 2", "back", "next", "past"]
        told = ask(*calls)
        self.assertEqual([told[i] for i in (2, 4, 6, 8, 11, 12)],
                         [[1, 1], [0], [1, 2], [0], [1, 0], [2, 0, 1]])


class Go(unittest.TestCase):
    def test_it_tells_how_many_names_past_tells(self):
        calls = ["begin 4 0 2 1", "set 2 1", "set 0 2", "go 1", "go 0", "go 0", "go 2", "past"]
        self.assertEqual(ask(*calls)[3:], [[2], [3], [4], [5], [5, 0, 1, 0, 0, 2]])

    def test_the_name_comes(self):
        self.assertEqual(ask("begin 4 0 2 2", "set 2 1", "go 2", "ring", "next")[3:], [[2, 0, 1, 0, 1], [0]])

    def test_each_of_next_may_come_and_no_other(self):
        start = ["begin 5 0 3 2", "set 8 1", "set 4 1", "set 7 1", "set 2 2"]
        for place in range(5):
            coming = last(*start, f"place {place}", "next")[1:]
            for i in range(5):
                with self.subTest(place=place, i=i):
                    told = ask(*start, f"place {place}", f"go {i}", "ring", "past")[-3:]
                    if i in coming:
                        self.assertEqual([told[0], told[1][0], told[2]], [[2], i, [2, place, i]])
                    else:
                        self.assertEqual([told[0], told[1][0], told[2]], [[-12], place, [1, place]])

    def test_no_such_name(self):
        for i in (3, 4, GREATEST):
            self.assertEqual(ask("begin 4 0 2 0", "set 2 1", f"go {i}", "past")[2:], [[-2], [1, 0]])

    def test_no_such_name_comes_first(self):
        self.assertEqual(ask("begin 4 0 2 0", "go 2", "go 3", f"go {GREATEST}")[1:], [[-12], [-2], [-2]])

    def test_it_may_not_where_nobody_is_eager(self):
        self.assertEqual(ask("begin 4 0 2 0", "go 0", "past")[1:], [[-12], [1, 0]])


if __name__ == "__main__":
    unittest.main()
