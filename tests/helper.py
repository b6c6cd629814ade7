"""What the tests share: calls by name, and a second, slower telling of the document.

The second telling keeps each robot by its own place and goes by the document's words, so that
it shares no step with the program.
"""

from functools import lru_cache
from itertools import combinations, product

from ringgather.hall import answers

NUMBERS = {
    "begin": 0, "at": 1, "names": 2, "name": 3, "place": 4, "ring": 5, "sees": 6, "view": 7,
    "set": 8, "rule": 9, "next": 10, "go": 11, "against": 12, "help": 13, "run": 14,
    "runhelped": 15, "back": 16, "past": 17, "rest": 18, "sure": 19, "longest": 20, "soonest": 21,
    "mark": 22, "unmark": 23, "markapart": 24, "marks": 25, "good": 26, "ifset": 27, "found": 28,
    "take": 29, "best": 30, "why": 31, "eyesenough": 32, "allat": 33, "told": 34,
}
ARGUMENTS = {"begin": 4, "at": 1, "name": 1, "place": 1, "view": 1, "set": 2, "go": 1, "run": 1,
             "runhelped": 1, "mark": 1, "unmark": 1, "ifset": 2}
GREATEST = 4294967295


def line(*calls):
    """Write calls, each a text such as "begin 4 0 2 1", as one list of numbers."""
    numbers = []
    for call in calls:
        words = call.split()
        assert len(words) == 1 + ARGUMENTS.get(words[0], 0), call
        numbers.append(NUMBERS[words[0]])
        numbers.extend(int(word) for word in words[1:])
    return numbers


def parted(numbers):
    """Part what is given back into one list for each call."""
    parts = []
    at = 0
    while at < len(numbers):
        parts.append(numbers[at + 1:at + 1 + numbers[at]])
        assert len(parts[-1]) == numbers[at] >= 1
        at += 1 + numbers[at]
    return parts


def ask(*calls):
    """Tell what each of the calls answers."""
    parts = parted(answers(line(*calls)))
    assert len(parts) == len(calls)
    return parts


def last(*calls):
    """Tell what the last of the calls answers."""
    return ask(*calls)[-1]


def shown(count, eyes):
    """Tell what eyes tell of a place."""
    return {0: [0, 1, 2, 3], 1: [0, 1, 2, 2], 2: [0, 1, 1, 1]}[eyes][count]


def ring_of(robots, places):
    """Tell how many of the robots are at each place."""
    return [robots.count(place) for place in range(places)]


def name_for(ring):
    """Tell the name of a ring."""
    turned = [ring[i:] + ring[:i] for i in range(len(ring))]
    return min(turned + [row[::-1] for row in turned])


def view_at(ring, place, eyes):
    """Tell the lesser row that is seen from a place, and the sides by which it goes."""
    rows = {}
    for side in (1, -1):
        row = tuple(shown(ring[(place + side * i) % len(ring)], eyes) for i in range(len(ring)))
        rows.setdefault(row, []).append(side)
    return min(rows), rows[min(rows)]


class Second:
    """The document told a second time."""

    def __init__(self):
        self.begun = False

    def answer(self, call):
        """Tell what one call, a text, answers."""
        words = call.split()
        if words[0] != "begin" and not self.begun:
            return [-11]
        told = getattr(self, "do_" + words[0])(*[int(word) for word in words[1:]])
        return told if isinstance(told, list) else [told]

    def do_begin(self, n, e, k, a):
        if n not in range(3, 8) or e not in range(3) or k not in range(1, 4) or a not in range(3):
            return -22
        self.n, self.e, self.k, self.a, self.begun = n, e, k, a, True
        placed = [ring_of(robots, n) for robots in product(range(n), repeat=k)]
        self.all_names = sorted({tuple(name_for(ring)) for ring in placed})
        seen = {view_at(list(ring), p, e)[0] for ring in self.all_names for p in range(n) if ring[p]}
        self.all_views = sorted(seen)
        self.told = {row: 0 for row in self.all_views}
        self.came = [0]
        self.chosen = set()
        return len(self.all_views)

    def do_at(self, a):
        if a > 2:
            return -22
        was, self.a = self.a, a
        return was

    def do_names(self):
        return len(self.all_names)

    def do_name(self, i):
        return [self.n] + list(self.all_names[i]) if i < len(self.all_names) else -2

    def do_place(self, i):
        if i >= len(self.all_names):
            return -2
        was, self.came = self.came[-1], [i]
        return was

    def do_ring(self):
        return [self.came[-1]] + list(self.all_names[self.came[-1]])

    def do_sees(self):
        ring = list(self.all_names[self.came[-1]])
        had = []
        for place in range(self.n):
            if ring[place]:
                view = self.all_views.index(view_at(ring, place, self.e)[0])
                if view not in had:
                    had.append(view)
        return [len(had)] + had

    def is_even(self, row):
        return row[1:] == row[1:][::-1]

    def do_view(self, v):
        if v >= len(self.all_views):
            return -2
        return [int(self.is_even(self.all_views[v]))] + list(self.all_views[v])

    def do_set(self, v, m):
        if v >= len(self.all_views):
            return -2
        row = self.all_views[v]
        if m > 2 or self.is_even(row) and m > 1:
            return -22
        was, self.told[row] = self.told[row], m
        return was

    def do_rule(self):
        return [len(self.all_views)] + [self.told[row] for row in self.all_views]

    def goals(self, ring, place):
        """List where a robot at a place of a ring may go; none if it stays."""
        row, sides = view_at(ring, place, self.e)
        if self.told[row] == 2:
            sides = [-side for side in sides]
        return [(place + side) % self.n for side in sides] if self.told[row] else []

    def follow(self, i):
        """List which names may come of the i-th one."""
        ring = list(self.all_names[i])
        robots = [place for place in range(self.n) for robot in range(ring[place])]
        choices = [[None] + self.goals(ring, place) for place in robots]
        eager = sum(len(choice) > 1 for choice in choices)
        coming = set()
        for ends in product(*choices):
            gone = sum(end is not None for end in ends)
            if gone and (gone == 1, True, gone == eager)[self.a]:
                now = [place if end is None else end for place, end in zip(robots, ends)]
                coming.add(self.all_names.index(tuple(name_for(ring_of(now, self.n)))))
        return sorted(coming)

    def is_rest(self, i):
        return self.k in self.all_names[i] and not self.follow(i)

    def distances(self, every):
        """Tell of each name in how many moves it comes to rest by all choices, or some; None if never."""
        names = range(len(self.all_names))
        follow = {i: self.follow(i) for i in names}
        done = {i: 0 for i in names if self.is_rest(i)}
        for rounds in range(1, len(self.all_names) + 1):
            before = set(done)
            for i in names:
                if i not in before and follow[i] and (all if every else any)(j in before for j in follow[i]):
                    done[i] = rounds
        return [done.get(i) for i in names]

    def do_next(self):
        coming = self.follow(self.came[-1])
        return [len(coming)] + coming

    def come(self, i):
        self.came = (self.came + [i])[-60:]

    def do_go(self, i):
        if i >= len(self.all_names):
            return -2
        if i not in self.follow(self.came[-1]):
            return -12
        self.come(i)
        return len(self.came)

    def choose(self, helped):
        coming = self.follow(self.came[-1])
        if not coming:
            return False
        far = self.distances(not helped)
        if helped:
            self.come(min(coming, key=lambda i: (far[i] is None, far[i] or 0, i)))
        else:
            self.come(min(coming, key=lambda i: (far[i] is not None, -(far[i] or 0), i)))
        return True

    def do_against(self):
        return self.came[-1] if self.choose(False) else -33

    def do_help(self):
        return self.came[-1] if self.choose(True) else -33

    def do_run(self, k, helped=False):
        if k > 60:
            return -22
        moves = 0
        while moves < k and self.choose(helped):
            moves += 1
        return [moves, self.came[-1], int(self.is_rest(self.came[-1]))]

    def do_runhelped(self, k):
        return self.do_run(k, True)

    def do_back(self):
        if len(self.came) == 1:
            return -6
        self.came = self.came[:-1]
        return self.came[-1]

    def do_past(self):
        return [len(self.came)] + self.came

    def worst(self, i, follow, played=()):
        """Tell the moves of the longest play from the i-th name; None if one never ends, or not at rest."""
        if i in played or not follow[i] and self.k not in self.all_names[i]:
            return None
        longest = 0
        for j in follow[i]:
            moves = self.worst(j, follow, played + (i,))
            if moves is None:
                return None
            longest = max(longest, moves + 1)
        return longest

    def longest_plays(self):
        names = range(len(self.all_names))
        follow = [self.follow(i) for i in names]
        return [self.worst(i, follow) for i in names]

    def sure_ones(self):
        return {i for i, moves in enumerate(self.longest_plays()) if moves is not None}

    def do_rest(self):
        return int(self.is_rest(self.came[-1]))

    def do_sure(self):
        return int(self.came[-1] in self.sure_ones())

    def do_longest(self):
        moves = self.longest_plays()[self.came[-1]]
        return -33 if moves is None else moves

    def do_soonest(self):
        reached = {self.came[-1]}
        for moves in range(len(self.all_names)):
            if any(self.is_rest(i) for i in reached):
                return moves
            reached = {j for i in reached for j in self.follow(i)}
        return -33

    def do_mark(self, i):
        if i >= len(self.all_names):
            return -2
        if i in self.chosen:
            return -17
        self.chosen.add(i)
        return len(self.chosen)

    def do_unmark(self, i):
        if i >= len(self.all_names):
            return -2
        if i not in self.chosen:
            return -6
        self.chosen.remove(i)
        return len(self.chosen)

    def do_markapart(self):
        self.chosen = {i for i, ring in enumerate(self.all_names) if ring.count(0) == self.n - self.k}
        return len(self.chosen)

    def do_marks(self):
        return [len(self.chosen)] + sorted(self.chosen)

    def do_good(self):
        return [len(self.chosen & self.sure_ones()), len(self.chosen)]

    def do_ifset(self, v, m):
        kept = dict(self.told)
        was = self.do_set(v, m)
        would = len(self.chosen & self.sure_ones())
        self.told = kept
        return was if was < 0 else [would, self.do_good()[0]]

    def too_many(self, e):
        return len(every_rule(self.n, e, self.k, 6001)) > 6000

    def good_ones(self, e, a):
        """List the rules that gather all marked names, with such eyes and moves."""
        return [rule for rule, sure in tried(self.n, e, self.k, a) if self.chosen <= sure]

    def do_found(self):
        if self.too_many(self.e):
            return -28
        good = self.good_ones(self.e, self.a)
        return [len(good[0])] + list(good[0]) if good else -33

    def do_take(self):
        found = self.do_found()
        if isinstance(found, int):
            return found
        self.told = dict(zip(self.all_views, found[1:]))
        return 0

    def do_best(self):
        if self.too_many(self.e):
            return -28
        best = max(tried(self.n, self.e, self.k, self.a), key=lambda trial: len(self.chosen & trial[1]))
        return [len(self.chosen & best[1])] + list(best[0])

    def do_why(self):
        if self.too_many(self.e):
            return -28
        kinds = {sure for rule, sure in tried(self.n, self.e, self.k, self.a)}
        for size in range(len(self.chosen) + 1):
            for group in combinations(sorted(self.chosen), size):
                if not any(sure.issuperset(group) for sure in kinds):
                    return [size] + list(group)
        return -6

    def do_eyesenough(self):
        if any(self.too_many(e) for e in range(3)):
            return -28
        return max([e for e in range(3) if self.good_ones(e, self.a)], default=-33)

    def do_allat(self):
        if self.too_many(self.e):
            return -28
        return [len(self.good_ones(self.e, a)) for a in range(3)]

    def do_told(self):
        return [self.n, self.e, self.k, self.a, len(self.chosen), len(self.came)]


@lru_cache(None)
def every_rule(n, e, k, most):
    """List the rules in order; no more than the first so many."""
    told = Second()
    told.do_begin(n, e, k, 0)
    rules = []
    for rule in product(range(3), repeat=len(told.all_views)):
        if all(done < 2 or not told.is_even(row) for done, row in zip(rule, told.all_views)):
            rules.append(rule)
            if len(rules) == most:
                break
    return rules


@lru_cache(None)
def tried(n, e, k, a):
    """List each rule, in order, with the names that gather surely by it."""
    told = Second()
    told.do_begin(n, e, k, a)
    trials = []
    for rule in every_rule(n, e, k, 6001):
        told.told = dict(zip(told.all_views, rule))
        trials.append((rule, frozenset(told.sure_ones())))
    return trials


def second(*calls):
    """Tell what each of the calls answers, by the second telling."""
    told = Second()
    return [told.answer(call) for call in calls]
