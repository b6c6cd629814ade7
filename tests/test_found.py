"""found, take, best, why, eyesenough and allat: what comes of trying all rules."""

import unittest
from itertools import combinations

from ringgather.finding_calls import call_eyesenough
from ringgather.state import State
from ringgather.trials import Trial, fewest_hopeless
from tests.helper import ask, last

SEARCHES = ("found", "take", "best", "why", "eyesenough", "allat")
# Two on four places, one goes; the views are side by side, across from each other, together.
TWO = "begin 4 0 2 0"


def searched(*calls):
    """Tell what the six calls answer behind these; take comes last, as it changes the rule."""
    told = ask(*calls, "found", "best", "why", "eyesenough", "allat", "take")[len(calls):]
    return dict(zip(("found", "best", "why", "eyesenough", "allat", "take"), told))


class Searches(unittest.TestCase):
    def check(self, calls, **told):
        self.assertEqual(searched(*calls), told)

    def test_no_names_marked(self):
        self.check([TWO], found=[3, 0, 0, 0], best=[0, 0, 0, 0], why=[-6], eyesenough=[2], allat=[12, 12, 12],
                   take=[0])
        self.check(["begin 7 0 1 2"], found=[1, 0], best=[0, 0], why=[-6], eyesenough=[2], allat=[2, 2, 2], take=[0])

    def test_they_are_together(self):
        # Whoever is together is to stay, and the rest doesn't matter.
        self.check([TWO, "mark 0"], found=[3, 0, 0, 0], best=[1, 0, 0, 0], why=[-6], eyesenough=[2],
                   allat=[6, 6, 6], take=[0])

    def test_they_are_side_by_side(self):
        # One goes to the other; if two may go, they may change places for ever.
        self.check([TWO, "mark 1"], found=[3, 2, 0, 0], best=[1, 2, 0, 0], why=[-6], eyesenough=[2],
                   allat=[2, 0, 0], take=[0])

    def test_they_are_across_from_each_other(self):
        self.check([TWO, "mark 2"], found=[3, 2, 1, 0], best=[1, 2, 1, 0], why=[-6], eyesenough=[2],
                   allat=[1, 0, 0], take=[0])

    def test_all_names_are_marked(self):
        self.check([TWO, "mark 0", "mark 1", "mark 2"], found=[3, 2, 1, 0], best=[3, 2, 1, 0], why=[-6],
                   eyesenough=[2], allat=[1, 0, 0], take=[0])

    def test_one_robot(self):
        self.check(["begin 5 1 1 0", "mark 0"], found=[1, 0], best=[1, 0], why=[-6], eyesenough=[2],
                   allat=[1, 1, 1], take=[0])

    def test_a_marked_name_that_is_hopeless(self):
        for moves in (1, 2):
            self.check([TWO, f"at {moves}", "mark 1"], found=[-33], best=[0, 0, 0, 0], why=[1, 1],
                       eyesenough=[-33], allat=[2, 0, 0], take=[-33])
            self.check([TWO, f"at {moves}", "mark 0", "mark 2"], found=[-33], best=[1, 0, 0, 0], why=[1, 2],
                       eyesenough=[-33], allat=[1, 0, 0], take=[-33])

    def test_the_first_of_several_that_are_hopeless(self):
        self.check([TWO, "at 1", "mark 2", "mark 1"], found=[-33], best=[0, 0, 0, 0], why=[1, 1],
                   eyesenough=[-33], allat=[1, 0, 0], take=[-33])
        self.assertEqual(last("begin 6 0 2 2", "mark 3", "mark 2", "mark 0", "why"), [1, 3])
        self.assertEqual(last("begin 6 0 2 2", "mark 2", "mark 0", "why"), [-6])

    def test_eyes_that_are_just_enough(self):
        # 012: the one goes to the two, who stay; eyes that can't tell one from two can't let them.
        for eyes in (0, 1):
            self.check([f"begin 3 {eyes} 3 0", "mark 1"], found=[4, 2, 0, 0, 0], best=[1, 2, 0, 0, 0], why=[-6],
                       eyesenough=[1], allat=[2, 2, 6], take=[0])
        # But if all go they can all go to the third place.
        self.check(["begin 3 2 3 0", "mark 1"], found=[-33], best=[0, 0, 0, 0], why=[1, 1],
                   eyesenough=[1], allat=[0, 0, 2], take=[-33])
        self.assertEqual(ask("begin 3 0 3 0", "mark 1", "at 1", "eyesenough", "at 2", "eyesenough")[3::2], [[1], [2]])

    def test_the_eyes_of_now_do_not_matter_to_eyesenough(self):
        for eyes in range(3):
            for moves, answer in ((0, [1]), (1, [-33]), (2, [-33])):
                self.assertEqual(last(f"begin 3 {eyes} 3 {moves}", "mark 2", "eyesenough"), answer)

    def test_the_best_eyes_are_asked_too(self):
        # On no ring with few enough rules are eyes 0 needed; so the trials are made up.
        for enough in range(3):
            state = State()
            state.begin(3, 2, 3, 0)
            state.marked = [1]
            for eyes in range(3):
                state.tried[(3, eyes, 3, 0)] = [Trial((1,) if eyes <= enough else (0,), (0, 0, 0))]
            self.assertEqual(call_eyesenough(state, []), [enough])

    def test_the_first_good_rule_is_less_at_the_first_view_where_two_differ(self):
        # 012, all go: the two go to the one who stays, all go to the third place, or the one goes to the two.
        self.check(["begin 3 0 3 2", "mark 1"], found=[4, 0, 0, 2, 0], best=[1, 0, 0, 2, 0], why=[-6],
                   eyesenough=[2], allat=[2, 2, 6], take=[0])

    def test_three_on_five_places(self):
        self.check(["begin 5 0 3 0", "markapart"], found=[9, 2, 0, 2, 0, 1, 1, 0, 0, 0],
                   best=[2, 2, 0, 2, 0, 1, 1, 0, 0, 0], why=[-6], eyesenough=[1], allat=[23, 10, 407], take=[0])


class Take(unittest.TestCase):
    def test_it_is_the_rule_of_now(self):
        self.assertEqual(ask(TWO, "mark 2", "set 0 1", "set 2 1", "take", "rule", "good")[4:],
                         [[0], [3, 2, 1, 0], [1, 1]])

    def test_no_rule_is_good(self):
        self.assertEqual(ask(TWO, "at 1", "mark 2", "set 0 1", "set 2 1", "take", "rule")[5:], [[-33], [3, 1, 0, 1]])

    def test_the_rule_may_be_mended_then(self):
        calls = [TWO, "mark 2", "take", "set 1 0", "rule", "good", "take", "rule", "found"]
        self.assertEqual(ask(*calls)[3:], [[1], [3, 2, 0, 0], [0, 1], [0], [3, 2, 1, 0], [3, 2, 1, 0]])

    def test_the_play_goes_on(self):
        calls = [TWO, "set 2 1", "go 1", "mark 1", "take", "past", "against", "past", "rest"]
        self.assertEqual(ask(*calls)[4:], [[0], [2, 0, 1], [0], [3, 0, 1, 0], [1]])


class Nothing(unittest.TestCase):
    def test_a_search_changes_nothing(self):
        start = [TWO, "mark 2", "set 2 1", "go 1", "set 0 1"]
        probes = ["told", "ring", "rule", "marks", "past", "next", "good", "sure"]
        for call in SEARCHES:
            if call != "take":
                with self.subTest(call):
                    self.assertEqual(ask(*start, call, *probes)[6:], ask(*start, *probes)[5:])
        for call in SEARCHES:
            with self.subTest(call, hopeless=True):
                self.assertEqual(ask(*start, "at 1", call, *probes)[7:], ask(*start, "at 1", *probes)[6:])

    def test_what_was_found_is_not_changed_with_the_rule(self):
        self.assertEqual(ask(TWO, "take", "set 0 2", "set 2 1", "found", "best", "take", "rule")[4:],
                         [[3, 0, 0, 0], [0, 0, 0, 0], [0], [3, 0, 0, 0]])

    def test_the_rule_of_now_does_not_matter(self):
        for done in ("set 0 1", "set 0 2", "set 1 1", "set 2 1"):
            self.assertEqual(searched(TWO, "mark 1", "mark 2", done), searched(TWO, "mark 1", "mark 2"))

    def test_searches_behind_one_another(self):
        # What was found ahead of a begin, or of at, isn't what is found behind it.
        parts = [["begin 3 0 3 0", "mark 1"], ["begin 3 2 3 0", "mark 1"], ["begin 3 2 2 0", "mark 1"],
                 ["begin 4 2 2 0", "mark 1"], ["begin 4 2 2 1", "mark 1"], ["begin 4 2 2 0", "mark 2"]]
        for call in SEARCHES:
            calls = [word for part in parts for word in part + [call]]
            with self.subTest(call):
                self.assertEqual(ask(*calls)[2::3], [last(*part, call) for part in parts])
                moved = ask("begin 3 0 3 0", "mark 1", "mark 2", call, "at 1", call, "at 2", call, "at 0", call)[3::2]
                alone = [last(f"begin 3 0 3 {moves}", "mark 1", "mark 2", call) for moves in (0, 1, 2, 0)]
                self.assertEqual(moved, alone)


class TooMany(unittest.TestCase):
    def test_more_than_6000_rules(self):
        for places in (6, 7):
            for eyes in range(3):
                for moves in range(3):
                    start = [f"begin {places} {eyes} 3 {moves}"]
                    for marks in ([], ["mark 0"], ["markapart"]):
                        self.assertEqual(ask(*start, *marks, *SEARCHES)[1 + len(marks):], [[-28]] * 6)

    def test_it_comes_ahead_of_what_else_is_refused(self):
        # Three that stand alike, each as far from the next, are hopeless if all go.
        self.assertEqual(ask("begin 6 0 3 2", "mark 6", *SEARCHES)[2:], [[-28]] * 6)
        self.assertEqual(ask("begin 6 0 3 2", "why")[1:], [[-28]])

    def test_it_changes_nothing(self):
        start = ["begin 7 1 3 1", "markapart", "set 1 1", "place 2"]
        probes = ["told", "ring", "rule", "marks", "past", "next", "good", "sure"]
        for call in SEARCHES:
            self.assertEqual(ask(*start, call, *probes)[4:], [[-28]] + ask(*start, *probes)[4:])

    def test_other_calls_are_not_refused(self):
        calls = ["begin 7 0 3 0", "markapart", "good", "ifset 0 2", "sure", "longest", "soonest", "rest", "marks"]
        self.assertEqual(ask(*calls)[1:], [[4], [0, 4], [0, 0], [1], [0], [0], [1], [4, 3, 5, 6, 7]])

    def test_5832_rules(self):
        # With three on five places there are 5832 rules with eyes 0 and 1; there are never just 6000.
        for eyes, rules in ((0, 5832), (1, 5832), (2, 648)):
            self.assertEqual(last(f"begin 5 {eyes} 3 1", "allat"), [rules] * 3)
            self.assertEqual(last(f"begin 5 {eyes} 3 1", "mark 0", "allat"), [rules // 2] * 3)
            self.assertEqual(last(f"begin 5 {eyes} 3 1", "markapart", "eyesenough"), [1])


class Why(unittest.TestCase):
    def test_groups_of_which_each_one_is_not_hopeless(self):
        # No ring with few enough rules has such a group; so it is asked of trials that are made up.
        for sures, marked, answer in (
                ([(0,), (1,), (2,)], [0, 1, 2], [0, 1]),
                ([(0, 1), (0, 2), (3,)], [0, 1, 2, 3], [0, 3]),
                ([(0, 1), (0, 2)], [0, 1, 2], [1, 2]),
                ([(0, 1), (0, 2), (1, 2)], [0, 1, 2], [0, 1, 2]),
                ([(0, 1), (0, 2), (1, 2)], [0, 2], None),
                ([(0, 1, 3), (0, 2, 3), (1, 2, 3)], [0, 1, 2, 3], [0, 1, 2]),
                ([(0, 1), (2,)], [1, 2, 4], [4]),
                ([()], [], None),
                ([()], [5], [5])):
            with self.subTest(sures, marked=marked):
                self.assertEqual(fewest_hopeless([Trial(sure, (0,)) for sure in sures], marked), answer)

    def test_any_groups(self):
        names = range(4)
        groups = [group for size in range(5) for group in combinations(names, size)]
        for sures in combinations(groups, 3):
            trials = [Trial(sure, (0,)) for sure in sures]
            for marked in groups:
                hopeless = [group for group in groups
                            if set(group) <= set(marked) and not any(set(group) <= set(sure) for sure in sures)]
                answer = list(hopeless[0]) if hopeless else None
                self.assertEqual(fewest_hopeless(trials, list(marked)), answer)


if __name__ == "__main__":
    unittest.main()
