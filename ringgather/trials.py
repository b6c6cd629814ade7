"""Trials: all rules are tried, in order, and it is kept which names gather surely by them."""

from ringgather.moves import names_ahead
from ringgather.plays import sure_names


def ways_to_do(even):
    """Tell how many things a rule may tell of a view, even-handed or not."""
    return 2 if even else 3


def how_many_rules(field):
    """Tell how many rules there are."""
    rules = 1
    for even in field.evens:
        rules *= ways_to_do(even)
    return rules


def rules_of(field):
    """List all rules, in order; each is a tuple here."""
    rules = [()]
    for even in field.evens:
        longer = []
        for rule in rules:
            for done in range(ways_to_do(even)):
                longer.append(rule + (done,))
        rules = longer
    return rules


class Trial:
    """The names that gather surely by some rules, all of them and no others; the first such rule, and how many."""

    def __init__(self, sure, first):
        self.sure = sure
        self.first = first
        self.rules = 0

    def gathered_of(self, names):
        """Tell how many of these names gather."""
        return len([name for name in names if name in self.sure])

    def gathers_all(self, names):
        """Tell whether all of these names gather."""
        return self.gathered_of(names) == len(names)


class Foresight:
    """Which names may come, by any rule.

    What may come of a name hangs on what is told of the views in it alone, and many rules tell the
    same of these: so each such case is reckoned once.
    """

    def __init__(self, field, moves):
        self.field = field
        self.moves = moves
        self.views_had = [field.views_in(name) for name in range(len(field.names))]
        self.foreseen = [{} for name in field.names]

    def coming_by(self, name, rule):
        """List, rising, the names that may come of a name by a rule."""
        told = tuple([rule[view] for view in self.views_had[name]])
        foreseen = self.foreseen[name]
        if told not in foreseen:
            foreseen[told] = names_ahead(self.field, name, rule, self.moves)
        return foreseen[told]

    def graph_foreseen(self, rule):
        """Tell of each name which names may come of it by a rule."""
        return [self.coming_by(name, rule) for name in range(len(self.field.names))]


def trials_of(field, moves):
    """List the trials of all rules, one for all those by which the same names gather surely."""
    foresight = Foresight(field, moves)
    trials = {}
    for rule in rules_of(field):
        sure = tuple(sure_names(field.names, foresight.graph_foreseen(rule)))
        if sure not in trials:
            trials[sure] = Trial(sure, rule)
        trials[sure].rules += 1
    return list(trials.values())


def how_many_good(trials, marked):
    """Tell how many rules gather all marked names."""
    return sum([trial.rules for trial in trials if trial.gathers_all(marked)])


def first_of(trials):
    """Tell the first rule in any of these trials."""
    return min([trial.first for trial in trials])


def first_good(trials, marked):
    """Tell the first rule that gathers all marked names, or None if no rule does."""
    good = [trial for trial in trials if trial.gathers_all(marked)]
    return first_of(good) if good else None


def most_gathered(trials, marked):
    """Tell the most marked names that any rule gathers."""
    return max([trial.gathered_of(marked) for trial in trials])


def first_that_gathers(trials, marked, most):
    """Tell the first rule that gathers just so many marked names."""
    return first_of([trial for trial in trials if trial.gathered_of(marked) == most])


def groups_of(names, size):
    """List all groups of so many of these names, each rising, in order; the names rise, too."""
    groups = [[]]
    for grown in range(size):
        larger = []
        for group in groups:
            for name in names:
                if not group or name > group[-1]:
                    larger.append(group + [name])
        groups = larger
    return groups


def fewest_hopeless(trials, marked):
    """Tell the first of the smallest groups of marked names that no rule gathers, or None if some rule gathers all."""
    for size in range(len(marked) + 1):
        for group in groups_of(marked, size):
            if first_good(trials, group) is None:
                return group
    return None
