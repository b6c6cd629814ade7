"""told: what is so now."""

import unittest
from itertools import product

from tests.helper import ask, last


class Told(unittest.TestCase):
    def test_behind_begin(self):
        for n, e, k, a in product(range(3, 8), range(3), range(1, 4), range(3)):
            self.assertEqual(last(f"begin {n} {e} {k} {a}", "told"), [n, e, k, a, 0, 1])

    def test_how_moves_are(self):
        self.assertEqual(ask("begin 4 2 3 1", "at 2", "told", "at 0", "told", "at 3", "told")[2::2],
                         [[4, 2, 3, 2, 0, 1], [4, 2, 3, 0, 0, 1], [4, 2, 3, 0, 0, 1]])

    def test_how_many_names_are_marked(self):
        calls = ["begin 5 1 3 0", "mark 3", "told", "mark 0", "told", "mark 0", "told", "unmark 3", "told",
                 "unmark 3", "told", "markapart", "told"]
        self.assertEqual([told[4] for told in ask(*calls)[2::2]], [1, 2, 2, 1, 1, 2])

    def test_how_many_names_past_tells(self):
        calls = ["begin 4 0 2 0", "set 0 1", "set 1 1", "set 2 1"]
        for call, many in (("go 1", 2), ("against", 2), ("help", 2), ("run 5", 6), ("runhelped 59", 60),
                           ("run 60", 60), ("back", 1), ("go 2", 1), ("run 61", 1)):
            with self.subTest(call):
                self.assertEqual(last(*calls, call, "told"), [4, 0, 2, 0, 0, many])
        self.assertEqual(last(*calls, "run 60", "back", "told"), [4, 0, 2, 0, 0, 59])
        self.assertEqual(last(*calls, "run 60", "place 0", "told"), [4, 0, 2, 0, 0, 1])

    def test_the_begin_that_came_last_counts_if_it_is_not_refused(self):
        calls = ["begin 4 0 2 1", "mark 1", "set 2 1", "go 1"]
        self.assertEqual(last(*calls, "begin 8 1 3 2", "told"), [4, 0, 2, 1, 1, 2])
        self.assertEqual(last(*calls, "begin 7 1 3 2", "told"), [7, 1, 3, 2, 0, 1])

    def test_it_changes_nothing(self):
        probes = ["ring", "rule", "marks", "past", "at 0"]
        calls = ["begin 4 0 2 1", "mark 1", "set 2 1", "go 1"]
        self.assertEqual(ask(*calls, "told", *probes)[5:], ask(*calls, *probes)[4:])


if __name__ == "__main__":
    unittest.main()
