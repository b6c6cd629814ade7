"""good and ifset: how many marked names gather by the rule of now, and by one that tells something else."""

import unittest

from tests.helper import GREATEST, ask, last

# Three names, all marked: 0002, 0011 and 0101.
THREE = ["begin 4 0 2 0", "mark 0", "mark 1", "mark 2"]


class Good(unittest.TestCase):
    def test_how_many_gather_and_how_many_are_marked(self):
        calls = [*THREE, "good", "set 0 2", "good", "set 1 1", "good", "set 2 1", "good", "set 2 0", "set 0 1", "good"]
        self.assertEqual([told for told in ask(*calls)[4:] if len(told) == 2],
                         [[1, 3], [2, 3], [3, 3], [0, 3], [1, 3]])

    def test_only_marked_ones_count(self):
        calls = ["begin 4 0 2 0", "set 0 2", "good", "mark 2", "good", "mark 1", "good", "mark 0", "good",
                 "unmark 1", "good", "unmark 2", "good"]
        self.assertEqual(ask(*calls)[2::2], [[0, 0], [0, 1], [1, 2], [2, 3], [1, 2], [1, 1]])

    def test_no_names_are_marked(self):
        self.assertEqual(ask("begin 4 0 2 0", "good", "set 2 1", "good", "ifset 0 2")[1::2], [[0, 0], [0, 0]])
        self.assertEqual(last("begin 4 0 2 0", "ifset 0 2"), [0, 0])

    def test_they_are_to_gather_surely(self):
        # If some or all go, those side by side may change places for ever.
        calls = [*THREE, "set 0 2", "set 1 1", "good", "at 1", "good", "at 2", "good"]
        self.assertEqual(ask(*calls)[6::2], [[3, 3], [1, 3], [1, 3]])

    def test_it_does_not_hang_on_the_ring(self):
        for place in range(3):
            self.assertEqual(last(*THREE, "set 0 2", f"place {place}", "good"), [2, 3])

    def test_with_those_apart_marked(self):
        calls = ["begin 4 0 3 1", "markapart", "good", "set 1 2", "good", "set 0 2", "good"]
        self.assertEqual(ask(*calls)[2::2], [[0, 1], [0, 1], [1, 1]])


class IfSet(unittest.TestCase):
    def test_how_many_would_gather_and_how_many_do(self):
        start = [*THREE, "set 0 2"]
        for call, answer in (("ifset 1 1", [3, 2]), ("ifset 2 1", [0, 2]), ("ifset 0 1", [1, 2]),
                             ("ifset 0 0", [1, 2]), ("ifset 0 2", [2, 2]), ("ifset 1 0", [2, 2])):
            with self.subTest(call):
                self.assertEqual(last(*start, call), answer)

    def test_only_marked_ones_count(self):
        self.assertEqual(ask("begin 4 0 2 0", "set 0 2", "mark 2", "ifset 1 1", "ifset 0 0")[3:], [[1, 0], [0, 0]])

    def test_the_moves_of_now_count(self):
        self.assertEqual(ask(*THREE, "ifset 0 2", "at 1", "ifset 0 2", "at 2", "ifset 0 2")[4::2],
                         [[2, 1], [1, 1], [1, 1]])

    def test_it_changes_nothing(self):
        calls = [*THREE, "set 2 1", "go 1", "set 0 2"]
        probes = ["told", "ring", "rule", "marks", "past", "next", "good"]
        for call in ("ifset 1 1", "ifset 2 0", "ifset 0 1", "ifset 3 0", "ifset 0 3", "ifset 1 2", "good"):
            self.assertEqual(ask(*calls, call, *probes)[8:], ask(*calls, *probes)[7:])

    def test_it_is_what_good_tells_when_it_is_set(self):
        for v in range(3):
            for m in range(2):
                told = ask(*THREE, "set 0 2", "set 1 1", "good", f"ifset {v} {m}", f"set {v} {m}", "good")
                self.assertEqual(told[7], [told[9][0], told[6][0]])

    def test_no_such_view(self):
        for v in (3, GREATEST):
            for m in (0, 2, 3, GREATEST):
                self.assertEqual(ask(*THREE, f"ifset {v} {m}", "rule")[4:], [[-2], [3, 0, 0, 0]])

    def test_what_is_done_is_2_at_the_most(self):
        for v in range(3):
            for m in (3, GREATEST):
                self.assertEqual(ask(*THREE, f"ifset {v} {m}", "rule")[4:], [[-22], [3, 0, 0, 0]])

    def test_what_is_done_of_an_even_handed_view_is_1_at_the_most(self):
        self.assertEqual(ask(*THREE, "ifset 1 2", "ifset 2 2", "ifset 0 2")[4:], [[-22], [-22], [2, 1]])
        self.assertEqual(ask("begin 7 0 1 0", "mark 0", "ifset 0 2", "ifset 0 1")[2:], [[-22], [0, 1]])


if __name__ == "__main__":
    unittest.main()
