"""against, help, run and runhelped: how a name is chosen, and how many come."""

import unittest

from tests.helper import GREATEST, ask, last

# Two on four places, one goes: across from each other they come to be side by side, then meet.
MEET = ["begin 4 0 2 0", "set 0 2", "set 1 1"]
# Of 0002 one goes beside the other, then away, then back, and so on.
ROUND = ["begin 4 0 2 0", "set 0 1", "set 1 1", "set 2 1"]


class Against(unittest.TestCase):
    def test_what_takes_most_moves_yet_is_chosen(self):
        # 0111, the ends go to the midst, some at a time: 0003, or 0012, which takes one move more.
        calls = ["begin 4 0 3 1", "set 0 2", "set 1 2", "place 3"]
        self.assertEqual(ask(*calls, "next", "against", "against", "against")[4:], [[2, 0, 1], [1], [0], [-33]])

    def test_the_first_of_those_that_take_as_many(self):
        # 0102, the two go: 0012 and 0111 take one move more each.
        calls = ["begin 4 0 3 2", "set 0 2", "set 1 2", "set 5 1", "place 2"]
        self.assertEqual(ask(*calls, "next", "against", "against", "against")[5:], [[2, 1, 3], [1], [0], [-33]])

    def test_the_first_of_those_that_take_most(self):
        # 001011 to 000012 takes one move more; to 000102 or 000111 it may take two.
        calls = ["begin 6 0 3 1", "set 0 2", "set 1 2", "set 2 2", "set 3 2", "set 4 2", "place 5"]
        self.assertEqual(ask(*calls, "next", "against", "past")[7:], [[3, 1, 2, 3], [2], [2, 5, 2]])

    def test_most_moves_are_those_by_the_worst_choices(self):
        # 00102, the two go to the one, some at a time: 00012, which takes one move more, or 00111,
        # which takes one if both ends go at once, but two if they don't.
        calls = ["begin 5 0 3 1", "set 0 2", "set 1 2", "set 7 2", "place 2"]
        self.assertEqual(ask(*calls, "next", "run 60", "past")[5:], [[2, 1, 3], [3, 0, 1], [4, 2, 3, 1, 0]])
        # 01011, one goes: 00102 takes two moves more; 00111 takes three, by way of 00102.
        calls = ["begin 5 0 3 0", "set 0 2", "set 1 2", "set 2 2", "set 3 2", "set 4 1", "set 5 1", "place 4"]
        self.assertEqual(ask(*calls, "next", "run 60", "past")[8:],
                         [[2, 2, 3], [4, 0, 1], [5, 4, 3, 2, 1, 0]])

    def test_what_is_not_sure_is_chosen_first(self):
        # Both may go at once, and change places for ever; so 0011 isn't sure, though 0002 is at rest.
        calls = ["begin 4 0 2 1", "set 0 2", "place 1"]
        self.assertEqual(ask(*calls, "next", "against", "against")[3:], [[2, 0, 1], [1], [1]])

    def test_the_first_that_is_not_sure(self):
        calls = ["begin 4 0 3 1", "set 0 1", "set 4 2", "place 1"]
        self.assertEqual(ask(*calls, "next", "against")[4:], [[4, 0, 1, 2, 3], [1]])

    def test_the_first_where_none_is_sure(self):
        self.assertEqual(ask("begin 4 0 2 1", "set 2 1", "next", "against", "past")[2:],
                         [[3, 0, 1, 2], [0], [2, 0, 0]])

    def test_a_name_where_nothing_may_come_and_they_are_apart_is_not_sure(self):
        # Of 001001 some go: 000101 meets or not; 000011 is where they stay, apart.
        calls = ["begin 6 0 2 1", "set 1 2", "set 2 1", "place 3"]
        self.assertEqual(ask(*calls, "next", "against", "against", "ring")[4:],
                         [[3, 1, 2, 3], [1], [-33], [1, 0, 0, 0, 0, 1, 1]])

    def test_all_at_one_place_and_eager_is_not_at_rest(self):
        # 0002 may come again and again: it is no surer than 0101, where they stay, apart.
        calls = ["begin 4 0 2 2", "set 2 1", "against", "against"]
        self.assertEqual(ask(*calls)[2:], [[0], [0]])

    def test_none_may_come(self):
        for place in range(3):
            self.assertEqual(ask("begin 4 0 2 0", f"place {place}", "against", "past")[2:], [[-33], [1, place]])

    def test_the_rule_of_now_and_the_moves_of_now_count(self):
        calls = ["begin 4 0 3 1", "set 0 2", "set 1 2", "place 3", "against", "back", "set 0 0", "against", "back",
                 "set 0 2", "at 2", "against"]
        told = ask(*calls)
        self.assertEqual([told[4], told[7], told[11]], [[1], [1], [0]])


class Help(unittest.TestCase):
    def test_what_can_come_to_rest_in_fewest_moves_is_chosen(self):
        # 0111, the ends go to the midst: 0003 at once.
        calls = ["begin 4 0 3 1", "set 0 2", "set 1 2", "place 3"]
        self.assertEqual(ask(*calls, "next", "help", "help")[4:], [[2, 0, 1], [0], [-33]])

    def test_the_fewest_is_not_the_first(self):
        # 0012: it may stay so, which takes two moves more; 0102 never comes to rest together; 0111 takes one.
        calls = ["begin 4 0 3 1", "set 0 1", "set 1 2", "set 4 1", "place 1"]
        self.assertEqual(ask(*calls, "next", "help", "help", "past")[5:], [[3, 1, 2, 3], [3], [0], [3, 1, 3, 0]])

    def test_the_first_of_those_that_take_as_few(self):
        calls = ["begin 4 0 3 1", "set 0 1", "set 1 2", "set 2 1", "set 4 1", "set 5 1", "place 1"]
        self.assertEqual(ask(*calls, "next", "help", "help")[7:], [[3, 1, 2, 3], [2], [0]])

    def test_the_fewest_moves_are_those_by_the_best_choices(self):
        # 001011 comes to 000102 or 000111: 000102 takes two moves more; 000111 three, or two by the best choice.
        calls = ["begin 6 0 3 0", "set 0 2", "set 1 2", "set 2 2", "set 3 2", "set 4 2", "set 8 1", "place 5"]
        self.assertEqual(ask(*calls, "next", "runhelped 60", "past")[8:],
                         [[2, 2, 3], [3, 0, 1], [4, 5, 2, 1, 0]])
        self.assertEqual(ask(*calls, "run 60", "past")[8:], [[4, 0, 1], [5, 5, 3, 2, 1, 0]])

    def test_those_that_never_can_are_behind_all_others(self):
        # 000011 is where they stay, apart; 000101 can meet at once; 001001 can in two moves.
        calls = ["begin 6 0 2 1", "set 1 2", "set 2 1", "place 3"]
        self.assertEqual(ask(*calls, "next", "help", "help", "help")[4:], [[3, 1, 2, 3], [2], [0], [-33]])

    def test_the_first_where_none_can(self):
        self.assertEqual(ask("begin 4 0 2 1", "set 0 1", "place 1", "next", "help", "past")[3:],
                         [[2, 1, 2], [1], [2, 1, 1]])

    def test_all_at_one_place_and_eager_is_not_at_rest(self):
        # 000101 can come to 000002, but from there some go again: none can ever come to rest.
        calls = ["begin 6 0 2 1", "set 1 2", "set 2 1", "set 3 1", "place 3"]
        self.assertEqual(ask(*calls, "next", "help")[5:], [[3, 1, 2, 3], [1]])

    def test_none_may_come(self):
        for place in range(3):
            self.assertEqual(ask("begin 4 0 2 0", f"place {place}", "help", "past")[2:], [[-33], [1, place]])


class Run(unittest.TestCase):
    def test_till_none_may_come(self):
        for k in (2, 3, 60):
            self.assertEqual(ask(*MEET, "place 2", f"run {k}", "past")[4:], [[2, 0, 1], [3, 2, 1, 0]])

    def test_k_times_at_the_most(self):
        self.assertEqual(ask(*MEET, "place 2", "run 1", "run 0", "run 1", "run 1", "past")[4:],
                         [[1, 1, 0], [0, 1, 0], [1, 0, 1], [0, 0, 1], [3, 2, 1, 0]])

    def test_no_times(self):
        for call in ("run 0", "runhelped 0"):
            self.assertEqual(ask(*MEET, call, "place 2", call, "past")[3:], [[0, 0, 1], [0], [0, 2, 0], [1, 2]])

    def test_sixty_times_at_the_most(self):
        for call in ("run", "runhelped"):
            for k in (61, 62, GREATEST):
                self.assertEqual(ask(*ROUND, f"{call} {k}", "past")[4:], [[-22], [1, 0]])
            self.assertEqual(last(*ROUND, f"{call} 60"), [60, 2, 0])

    def test_too_many_times_is_refused_where_none_may_come_too(self):
        self.assertEqual(ask("begin 4 0 2 0", "run 61", "runhelped 61", "run 60", "runhelped 60")[1:],
                         [[-22], [-22], [0, 0, 1], [0, 0, 1]])

    def test_they_are_apart_and_nothing_may_come(self):
        for call in ("run", "runhelped"):
            self.assertEqual(ask("begin 4 0 2 0", "place 2", f"{call} 60", "past")[2:], [[0, 2, 0], [1, 2]])

    def test_one_robot(self):
        for call in ("run", "runhelped"):
            self.assertEqual(ask("begin 5 2 1 1", f"{call} 7", "set 0 1", f"{call} 7", "past")[1:],
                             [[0, 0, 1], [0], [7, 0, 0], [8] + [0] * 8])

    def test_all_at_one_place_and_eager_are_not_at_rest(self):
        for call in ("run", "runhelped"):
            self.assertEqual(last("begin 4 0 2 2", "set 2 1", f"{call} 1"), [1, 0, 0])

    def test_run_is_against_them_and_runhelped_is_helped(self):
        calls = ["begin 4 0 3 1", "set 0 2", "set 1 2", "place 3"]
        self.assertEqual(ask(*calls, "run 60", "past")[4:], [[2, 0, 1], [3, 3, 1, 0]])
        self.assertEqual(ask(*calls, "runhelped 60", "past")[4:], [[1, 0, 1], [2, 3, 0]])
        calls = ["begin 6 0 2 1", "set 1 2", "set 2 1", "place 3"]
        self.assertEqual(ask(*calls, "run 60", "past")[4:], [[1, 1, 0], [2, 3, 1]])
        self.assertEqual(ask(*calls, "runhelped 60", "past")[4:], [[2, 0, 1], [3, 3, 2, 0]])

    def test_a_run_is_as_many_single_choices(self):
        start = ["begin 5 0 3 1", "set 8 1", "set 4 1", "set 7 1", "set 2 2", "set 0 1", "set 1 1", "set 3 2"]
        for one, many in (("against", "run 8"), ("help", "runhelped 8")):
            for place in range(5):
                placed = start + [f"place {place}"]
                self.assertEqual(last(*placed, *[one] * 8, "past"), last(*placed, many, "past"))

    def test_a_rule_changed_in_the_midst_of_a_play(self):
        calls = [*ROUND, "run 5", "set 0 2", "set 2 0", "run 60", "past"]
        self.assertEqual(ask(*calls)[4:], [[5, 1, 0], [1], [1], [1, 0, 1], [7, 0, 1, 2, 1, 2, 1, 0]])


if __name__ == "__main__":
    unittest.main()
