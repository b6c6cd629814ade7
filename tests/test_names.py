"""names, name, place and ring."""

import unittest

from tests.helper import GREATEST, ask, last

NAMES = {
    (3, 1): ["001"], (7, 1): ["0000001"],
    (3, 2): ["002", "011"], (4, 2): ["0002", "0011", "0101"], (5, 2): ["00002", "00011", "00101"],
    (6, 2): ["000002", "000011", "000101", "001001"], (7, 2): ["0000002", "0000011", "0000101", "0001001"],
    (3, 3): ["003", "012", "111"], (4, 3): ["0003", "0012", "0102", "0111"],
    (5, 3): ["00003", "00012", "00102", "00111", "01011"],
    (6, 3): ["000003", "000012", "000102", "000111", "001002", "001011", "010101"],
    (7, 3): ["0000003", "0000012", "0000102", "0000111", "0001002", "0001011", "0010011", "0010101"],
}


class Names(unittest.TestCase):
    def test_how_many_and_which_in_order(self):
        for (places, robots), names in NAMES.items():
            for eyes in range(3):
                calls = [f"begin {places} {eyes} {robots} {eyes}", "names"]
                calls += [f"name {i}" for i in range(len(names) + 1)]
                told = [[places] + [int(sign) for sign in name] for name in names]
                with self.subTest(calls[0]):
                    self.assertEqual(ask(*calls)[1:], [[len(names)]] + told + [[-2]])

    def test_one_robot_has_one_name_on_each_ring(self):
        for places in range(3, 8):
            self.assertEqual(ask(f"begin {places} 0 1 0", "names", "name 0")[1:],
                             [[1], [places] + [0] * (places - 1) + [1]])

    def test_no_such_name(self):
        for i in (3, 4, GREATEST):
            self.assertEqual(last("begin 4 0 2 0", f"name {i}"), [-2])

    def test_the_names_change_nothing(self):
        self.assertEqual(ask("begin 4 0 2 0", "place 1", "names", "name 2", "name 0", "ring", "past")[-2:],
                         [[1, 0, 0, 1, 1], [1, 1]])


class Place(unittest.TestCase):
    def test_it_tells_which_the_ring_was(self):
        self.assertEqual(ask("begin 4 0 2 0", "place 2", "place 1", "place 1", "place 0"),
                         [[3], [0], [2], [1], [1]])

    def test_the_ring_is_that_name(self):
        for i, name in enumerate(NAMES[(6, 3)]):
            self.assertEqual(last("begin 6 0 3 0", f"place {i}", "ring"), [i] + [int(sign) for sign in name])

    def test_none_was_ahead_of_it(self):
        calls = ["begin 4 0 2 0", "set 2 1", "go 1", "past", "place 2", "past", "back", "ring"]
        self.assertEqual(ask(*calls)[3:], [[2, 0, 1], [1], [1, 2], [-6], [2, 0, 1, 0, 1]])

    def test_the_name_it_is_already_has_none_ahead_then(self):
        calls = ["begin 4 0 2 0", "set 2 1", "go 1", "place 1", "past", "back"]
        self.assertEqual(ask(*calls)[-3:], [[1], [1, 1], [-6]])

    def test_no_such_name_changes_nothing(self):
        for i in (3, 4, GREATEST):
            calls = ["begin 4 0 2 0", "set 2 1", "go 1", f"place {i}", "past", "ring"]
            self.assertEqual(ask(*calls)[3:], [[-2], [2, 0, 1], [1, 0, 0, 1, 1]])

    def test_the_rule_and_the_moves_stay(self):
        self.assertEqual(ask("begin 4 0 2 2", "set 0 2", "place 1", "rule", "at 0")[3:], [[3, 2, 0, 0], [2]])


class Ring(unittest.TestCase):
    def test_it_follows_moves_and_back(self):
        calls = ["begin 4 0 2 0", "set 2 1", "ring", "go 1", "ring", "back", "ring"]
        told = ask(*calls)
        self.assertEqual([told[2], told[4], told[6]], [[0, 0, 0, 0, 2], [1, 0, 0, 1, 1], [0, 0, 0, 0, 2]])

    def test_no_count_stands_ahead_of_the_places(self):
        for places in range(3, 8):
            self.assertEqual(last(f"begin {places} 2 3 1", "ring"), [0] + [0] * (places - 1) + [3])


if __name__ == "__main__":
    unittest.main()
