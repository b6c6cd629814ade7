"""mark, unmark, markapart and marks: which names are marked."""

import unittest

from tests.helper import GREATEST, ask, last

# The names where no two robots are at one place, by how many places and robots there are.
APART = {
    (3, 1): [0], (7, 1): [0], (3, 2): [1], (4, 2): [1, 2], (5, 2): [1, 2], (6, 2): [1, 2, 3], (7, 2): [1, 2, 3],
    (3, 3): [2], (4, 3): [3], (5, 3): [3, 4], (6, 3): [3, 5, 6], (7, 3): [3, 5, 6, 7],
}


class Mark(unittest.TestCase):
    def test_it_tells_how_many_are_marked(self):
        self.assertEqual(ask("begin 4 0 3 0", "mark 2", "mark 0", "mark 3", "mark 1")[1:], [[1], [2], [3], [4]])

    def test_they_are_told_rising(self):
        calls = ["begin 4 0 3 0", "marks", "mark 2", "marks", "mark 0", "marks", "mark 3", "marks", "mark 1", "marks"]
        self.assertEqual(ask(*calls)[1::2], [[0], [1, 2], [2, 0, 2], [3, 0, 2, 3], [4, 0, 1, 2, 3]])

    def test_it_is_marked(self):
        self.assertEqual(ask("begin 4 0 3 0", "mark 2", "mark 2", "mark 1", "mark 2", "mark 1", "marks")[1:],
                         [[1], [-17], [2], [-17], [-17], [2, 1, 2]])

    def test_no_such_name(self):
        for i in (4, 5, GREATEST):
            self.assertEqual(ask("begin 4 0 3 0", "mark 3", f"mark {i}", f"mark {i}", "marks")[1:],
                             [[1], [-2], [-2], [1, 3]])

    def test_one_robot(self):
        self.assertEqual(ask("begin 6 2 1 2", "mark 0", "mark 0", "mark 1", "marks")[1:], [[1], [-17], [-2], [1, 0]])


class Unmark(unittest.TestCase):
    def test_it_tells_how_many_are_marked(self):
        calls = ["begin 4 0 3 0", "mark 2", "mark 0", "mark 3", "unmark 2", "marks", "unmark 0", "unmark 3", "marks"]
        self.assertEqual(ask(*calls)[4:], [[2], [2, 0, 3], [1], [0], [0]])

    def test_it_is_not_marked(self):
        self.assertEqual(ask("begin 4 0 3 0", "unmark 0", "mark 2", "unmark 1", "unmark 2", "unmark 2", "marks")[1:],
                         [[-6], [1], [-6], [0], [-6], [0]])

    def test_no_such_name(self):
        for i in (4, 5, GREATEST):
            self.assertEqual(ask("begin 4 0 3 0", "mark 3", f"unmark {i}", "marks")[1:], [[1], [-2], [1, 3]])

    def test_it_may_be_marked_again(self):
        self.assertEqual(ask("begin 4 0 3 0", "mark 2", "unmark 2", "mark 2", "mark 2", "marks")[1:],
                         [[1], [0], [1], [-17], [1, 2]])


class MarkApart(unittest.TestCase):
    def test_which_are_marked(self):
        for (places, robots), apart in APART.items():
            for eyes in range(3):
                self.assertEqual(ask(f"begin {places} {eyes} {robots} 0", "markapart", "marks", "markapart")[1:],
                                 [[len(apart)], [len(apart)] + apart, [len(apart)]])

    def test_no_others_are(self):
        for i in range(5):
            self.assertEqual(ask("begin 5 0 3 0", f"mark {i}", "markapart", "marks")[1:], [[1], [2], [2, 3, 4]])

    def test_they_are_marked_as_any(self):
        calls = ["begin 5 0 3 0", "markapart", "mark 3", "mark 0", "unmark 4", "unmark 4", "unmark 1", "marks"]
        self.assertEqual(ask(*calls)[2:], [[-17], [3], [2], [-6], [-6], [2, 0, 3]])


class Marks(unittest.TestCase):
    def test_what_else_is_done_leaves_them(self):
        for call in ("at 1", "place 1", "set 2 1", "go 1", "against", "help", "run 5", "runhelped 5", "back", "good",
                     "ifset 0 2", "found", "take", "best", "why", "eyesenough", "allat", "begin 4 0 2 3", "mark 3",
                     "mark 2", "unmark 3", "unmark 1"):
            with self.subTest(call):
                self.assertEqual(last("begin 4 0 2 0", "mark 2", "mark 0", "set 2 1", "go 1", call, "marks"), [2, 0, 2])

    def test_marking_leaves_what_else_there_is(self):
        calls = ["begin 4 0 2 1", "set 2 1", "set 0 2", "go 1", "go 0"]
        probes = ["ring", "past", "rule", "next", "sure", "at 0"]
        for call in ("mark 1", "unmark 1", "unmark 0", "markapart", "marks"):
            with self.subTest(call):
                self.assertEqual(ask(*calls, "mark 0", call, *probes)[7:], ask(*calls, *probes)[5:])

    def test_none_are_behind_begin(self):
        self.assertEqual(ask("begin 4 0 2 0", "marks", "mark 2", "begin 4 0 2 0", "marks", "unmark 2", "good")[1:],
                         [[0], [1], [3], [0], [-6], [0, 0]])


if __name__ == "__main__":
    unittest.main()
