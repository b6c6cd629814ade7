"""answers: how calls are written, how they are answered, and that nothing is kept or changed."""

import unittest

from ringgather.hall import answers
from tests.helper import ARGUMENTS, GREATEST, NUMBERS, ask, line, parted

ASKED = ("begin", "at", "names", "name", "place", "ring", "sees", "view", "set", "rule", "next", "go",
         "against", "help", "run", "runhelped", "back", "past", "rest", "sure", "longest", "soonest", "mark",
         "unmark", "markapart", "marks", "good", "ifset", "found", "take", "best", "why", "eyesenough", "allat", "told")
LONG = ["begin 5 1 3 1", "set 0 2", "set 6 1", "names", "name 3", "view 6", "sees", "rule", "next", "go 1",
        "against", "help", "run 5", "runhelped 60", "back", "past", "place 2", "ring", "at 2", "go 99",
        "set 0 9", "begin 9 9 9 9", "begin 3 2 1 0", "past", "rule", "ring", "back", "view 1", "name 1", "next"]
TRIED = ["begin 4 0 3 1", "markapart", "mark 1", "mark 1", "marks", "found", "best", "why", "allat", "eyesenough",
         "take", "good", "ifset 0 0", "place 3", "sure", "longest", "soonest", "rest", "run 60", "rest", "told",
         "unmark 3", "unmark 3", "why", "begin 6 0 3 1", "found", "eyesenough", "markapart", "good", "told"]


class Interface(unittest.TestCase):
    def test_each_answer_has_its_count_ahead(self):
        calls = [0, 4, 0, 2, 0, 2, 3, 1, 5, 6, 7, 0, 8, 2, 1, 9, 10, 11, 1, 17, 16, 16]
        self.assertEqual(answers(calls), [
            1, 3,
            1, 3,
            5, 4, 0, 0, 1, 1,
            5, 0, 0, 0, 0, 2,
            2, 1, 2,
            5, 0, 1, 0, 0, 1,
            1, 0,
            4, 3, 0, 0, 1,
            2, 1, 1,
            1, 2,
            3, 2, 0, 1,
            1, 0,
            1, -6])

    def test_the_calls_are_known_by_their_numbers(self):
        start = [0, 4, 0, 2, 0, 8, 0, 2, 8, 1, 1, 4, 2]
        behind = len(answers(start))
        told = {(1, 2): [1, 0], (4, 1): [1, 2], (12,): [1, 1], (13,): [1, 1], (14, 9): [3, 2, 0, 1],
                (15, 1): [3, 1, 1, 0], (11, 1): [1, 2], (11, 0): [1, -12], (16,): [1, -6], (17,): [2, 1, 2],
                (9,): [4, 3, 2, 1, 0], (10,): [2, 1, 1], (6,): [2, 1, 1], (5,): [5, 2, 0, 1, 0, 1]}
        for call, answer in told.items():
            with self.subTest(call):
                self.assertEqual(answers(start + list(call))[behind:], answer)

    def test_each_answer_of_trials_has_its_count_ahead(self):
        # begin, mark 1, mark 2; rest to soonest; marks, good, ifset 0 2; found, best, why, eyesenough, allat, told.
        calls = [0, 4, 0, 2, 1, 22, 1, 22, 2, 18, 19, 20, 21, 25, 26, 27, 0, 2, 28, 30, 31, 32, 33, 34]
        self.assertEqual(answers(calls), [
            1, 3,
            1, 1,
            1, 2,
            1, 1,
            1, 1,
            1, 0,
            1, 0,
            3, 2, 1, 2,
            2, 0, 2,
            2, 0, 0,
            1, -33,
            4, 0, 0, 0, 0,
            2, 1, 1,
            1, -33,
            3, 1, 0, 0,
            6, 4, 0, 2, 1, 2, 1])
        # at 0, found, take; unmark 1, markapart, rule, best, why.
        self.assertEqual(answers([0, 4, 0, 2, 1, 22, 1, 1, 0, 28, 29, 23, 1, 24, 9, 30, 31]), [
            1, 3,
            1, 1,
            1, 1,
            4, 3, 2, 0, 0,
            1, 0,
            1, 0,
            1, 2,
            4, 3, 2, 0, 0,
            4, 2, 2, 1, 0,
            1, -6])

    def test_a_refusal_is_one_number_alone(self):
        self.assertEqual(answers([3, 0]), [1, -11])
        self.assertEqual(answers([0, 4, 0, 2, 0, 3, 3]), [1, 3, 1, -2])

    def test_where_the_first_number_is_0_none_is_behind_it(self):
        self.assertEqual(answers([0, 4, 0, 2, 0, 10]), [1, 3, 1, 0])

    def test_one_call_and_thirty(self):
        self.assertEqual(answers([2]), [1, -11])
        self.assertEqual(len(LONG), 30)
        self.assertEqual(len(ask(*LONG)), 30)
        self.assertEqual(len(TRIED), 30)
        self.assertEqual(len(ask(*TRIED)), 30)
        self.assertEqual(ask(*["begin 3 0 1 0"] * 30), [[1]] * 30)

    def test_all_is_whole_numbers_in_one_list(self):
        for calls in (LONG, TRIED):
            given = answers(line(*calls))
            self.assertIs(type(given), list)
            for number in given:
                self.assertIs(type(number), int)

    def test_the_greatest_number_everywhere(self):
        refused = {"begin": -22, "at": -22, "name": -2, "place": -2, "view": -2, "set": -2, "go": -2,
                   "run": -22, "runhelped": -22, "mark": -2, "unmark": -2, "ifset": -2}
        for word, refusal in refused.items():
            call = " ".join([word] + [str(GREATEST)] * ARGUMENTS[word])
            with self.subTest(call):
                self.assertEqual(ask("begin 7 0 3 2", call, "past"), [[16], [refusal], [1, 0]])

    def test_a_refusal_changes_nothing(self):
        start = ["begin 4 0 2 1", "mark 1", "set 2 1", "set 0 2", "go 1", "go 0"]
        probes = ["ring", "past", "rule", "next", "names", "sees", "marks", "told", "at 0"]
        for call in ("begin 4 0 2 3", "at 3", "name 3", "place 3", "view 3", "set 3 0", "set 1 2", "set 0 3",
                     "go 3", "run 61", "runhelped 61", "mark 3", "mark 1", "unmark 3", "unmark 0", "ifset 3 0",
                     "ifset 1 2", "ifset 0 3", "longest", "soonest", "found", "take", "eyesenough"):
            with self.subTest(call):
                told = ask(*start, call, *probes)
                self.assertEqual(len(told[6]), 1)
                self.assertLess(told[6][0], 0)
                self.assertEqual(told[7:], ask(*start, *probes)[6:])
        for call in ("go 0", "go 2", "against", "help", "back"):
            with self.subTest(call):
                told = ask(*start, "place 1", "set 0 0", call, *probes)
                self.assertEqual(len(told[8]), 1)
                self.assertLess(told[8][0], 0)
                self.assertEqual(told[9:], ask(*start, "place 1", "set 0 0", *probes)[8:])

    def test_what_is_handed_in_stays_as_it_was(self):
        for words in (LONG, TRIED):
            calls = line(*words)
            kept = list(calls)
            answers(calls)
            self.assertEqual(calls, kept)

    def test_it_is_not_changed_for_a_while_either(self):
        class Watched(list):
            def refuse(self, *given, **named):
                raise AssertionError("what is handed in was changed")

            append = extend = insert = pop = remove = clear = sort = reverse = refuse
            __setitem__ = __delitem__ = __iadd__ = __imul__ = refuse

        for words in (LONG, TRIED):
            calls = line(*words)
            self.assertEqual(answers(Watched(calls)), answers(calls))

    def test_nothing_is_kept_from_one_time_to_the_next(self):
        first = answers(line(*LONG))
        self.assertEqual(answers(line(*LONG)), first)
        self.assertEqual(answers(line("ring", "begin 5 1 3 1", "rule", "past")),
                         [1, -11, 1, 9, 10, 9] + [0] * 9 + [2, 1, 0])
        self.assertEqual(answers(line(*LONG)), first)
        tried = answers(line(*TRIED))
        self.assertEqual(ask("marks", "begin 4 0 3 1", "marks", "told"), [[-11], [7], [0], [4, 0, 3, 1, 0, 1]])
        self.assertEqual(answers(line(*TRIED)), tried)

    def test_what_is_given_back_may_be_changed(self):
        calls = line("begin 4 0 2 0", "rule", "past", "name 0", "view 0", "sees")
        first = answers(calls)
        kept = list(first)
        first[:] = [9] * len(first)
        self.assertEqual(answers(calls), kept)

    def test_every_call_is_answered(self):
        for word in ASKED:
            call = " ".join([word] + ["0"] * ARGUMENTS.get(word, 0))
            given = parted(answers(line("begin 4 0 2 0", call, "names")))
            self.assertEqual((len(given), given[2]), (3, [3]))
        self.assertEqual([NUMBERS[word] for word in ASKED], list(range(35)))


if __name__ == "__main__":
    unittest.main()
