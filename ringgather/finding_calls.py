"""The calls that try all rules: to find a good one, the best one, or why none is good.

Each function here takes the state and the call's own numbers, and tells the numbers that are answered.
"""

from ringgather.refusals import none_is_good, some_is_good, too_many_rules
from ringgather.told import counted
from ringgather.trials import fewest_hopeless, first_good, first_that_gathers, how_many_good
from ringgather.trials import how_many_rules, most_gathered

MOST_RULES = 6000


def is_too_many(field):
    """Tell whether there are more rules than are tried."""
    return how_many_rules(field) > MOST_RULES


def call_found(state, numbers):
    """Tell the first rule that is good."""
    if is_too_many(state.field):
        return too_many_rules()
    rule = first_good(state.trials_now(), state.marked)
    if rule is None:
        return none_is_good()
    return counted(rule)


def call_take(state, numbers):
    """Let the first rule that is good be the rule of now."""
    found = call_found(state, numbers)
    if found[0] < 0:
        return found
    state.rule = found[1:]
    return [0]


def call_best(state, numbers):
    """Tell the most marked names that any rule gathers surely, then the first such rule."""
    if is_too_many(state.field):
        return too_many_rules()
    trials = state.trials_now()
    most = most_gathered(trials, state.marked)
    return [most] + list(first_that_gathers(trials, state.marked, most))


def call_why(state, numbers):
    """Tell the fewest marked names that no rule gathers all of."""
    if is_too_many(state.field):
        return too_many_rules()
    hopeless = fewest_hopeless(state.trials_now(), state.marked)
    if hopeless is None:
        return some_is_good()
    return counted(hopeless)


def call_eyesenough(state, numbers):
    """Tell the worst eyes with which some rule is good."""
    if any([is_too_many(state.field_with(eyes)) for eyes in range(3)]):
        return too_many_rules()
    for eyes in (2, 1, 0):
        if first_good(state.trials(eyes, state.moves), state.marked) is not None:
            return [eyes]
    return none_is_good()


def call_allat(state, numbers):
    """Tell how many rules are good if one goes, if some go, and if all go."""
    if is_too_many(state.field):
        return too_many_rules()
    return [how_many_good(state.trials(state.field.eyes, moves), state.marked) for moves in range(3)]
