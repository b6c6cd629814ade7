"""sees and view: what the three eyes tell, lesser rows, and even-handed views."""

import unittest

from tests.helper import GREATEST, ask, last

# The views in order, each with 1 ahead of its lesser row if it is even-handed.
VIEWS = {
    (3, 0, 1): ["1 100"], (7, 2, 1): ["1 1000000"],
    (3, 0, 2): ["0 101", "1 200"], (3, 1, 2): ["0 101", "1 200"], (3, 2, 2): ["1 100", "0 101"],
    (4, 0, 2): ["0 1001", "1 1010", "1 2000"], (4, 1, 2): ["0 1001", "1 1010", "1 2000"],
    (4, 2, 2): ["1 1000", "0 1001", "1 1010"],
    (6, 0, 2): ["0 100001", "0 100010", "1 100100", "1 200000"],
    (7, 0, 2): ["0 1000001", "0 1000010", "0 1000100", "1 2000000"],
    (3, 0, 3): ["0 102", "1 111", "0 201", "1 300"], (3, 1, 3): ["0 102", "1 111", "1 200", "0 201"],
    (3, 2, 3): ["1 100", "0 101", "1 111"],
    (4, 0, 3): ["0 1002", "0 1011", "1 1020", "1 1101", "0 2001", "1 2010", "1 3000"],
    (4, 1, 3): ["0 1002", "0 1011", "1 1020", "1 1101", "1 2000", "0 2001", "1 2010"],
    (4, 2, 3): ["1 1000", "0 1001", "1 1010", "0 1011", "1 1101"],
    (5, 0, 3): ["0 10002", "0 10011", "0 10020", "0 10101", "1 10110", "1 11001", "0 20001", "0 20010", "1 30000"],
    (6, 2, 3): ["1 100000", "0 100001", "0 100010", "0 100011", "1 100100", "0 100101", "0 100110", "0 101001",
                "1 101010", "1 110001"],
}


class View(unittest.TestCase):
    def test_which_views_there_are_in_order(self):
        for (places, eyes, robots), views in VIEWS.items():
            calls = [f"begin {places} {eyes} {robots} 0"] + [f"view {v}" for v in range(len(views) + 1)]
            told = [[int(view[0])] + [int(sign) for sign in view[2:]] for view in views]
            with self.subTest(calls[0]):
                self.assertEqual(ask(*calls), [[len(views)]] + told + [[-2]])

    def test_one_robot_sees_the_same_both_ways(self):
        for places in range(3, 8):
            for eyes in range(3):
                self.assertEqual(ask(f"begin {places} {eyes} 1 0", "view 0", "sees"),
                                 [[1], [1, 1] + [0] * (places - 1), [1, 0]])

    def test_no_such_view(self):
        for v in (3, 4, GREATEST):
            self.assertEqual(ask("begin 4 0 2 0", f"view {v}", "past")[1:], [[-2], [1, 0]])


class Sees(unittest.TestCase):
    def seen(self, begin, names):
        return [last(begin, f"place {i}", "sees") for i in range(names)]

    def test_views_stand_in_the_order_of_the_places(self):
        # 001011 has robots at places 2, 4 and 5, who see 100110, 101001 and 100101.
        self.assertEqual(last("begin 6 2 3 0", "place 5", "sees"), [3, 6, 7, 5])
        # 01011 has them at 1, 3 and 4, who see 10110, 10101 and 10101.
        self.assertEqual(last("begin 5 0 3 0", "place 4", "sees"), [2, 4, 3])

    def test_a_view_is_told_once(self):
        # 0111: those at places 1 and 3 see the same.
        self.assertEqual(last("begin 4 0 3 0", "place 3", "sees"), [2, 1, 3])
        self.assertEqual(last("begin 3 0 3 0", "place 2", "sees"), [1, 1])
        self.assertEqual(last("begin 4 0 2 0", "place 2", "sees"), [1, 1])

    def test_eyes_0_tell_how_many(self):
        self.assertEqual(self.seen("begin 5 0 3 0", 5), [[1, 8], [2, 0, 6], [2, 2, 7], [2, 1, 5], [2, 4, 3]])

    def test_eyes_1_tell_none_one_or_more(self):
        self.assertEqual(self.seen("begin 5 1 3 0", 5), [[1, 6], [2, 0, 7], [2, 2, 8], [2, 1, 5], [2, 4, 3]])

    def test_eyes_2_tell_none_or_any(self):
        self.assertEqual(self.seen("begin 5 2 3 0", 5), [[1, 0], [1, 1], [1, 2], [2, 3, 6], [2, 5, 4]])

    def test_it_changes_nothing(self):
        self.assertEqual(ask("begin 4 0 3 0", "place 3", "sees", "view 0", "past", "sees")[-2:], [[1, 3], [2, 1, 3]])


if __name__ == "__main__":
    unittest.main()
