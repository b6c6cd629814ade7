"""The calls that change the rule of now, and tell it.

Each function here takes the state and the call's own numbers, and tells the numbers that are answered.
"""

from ringgather.refusals import no_such, not_let
from ringgather.told import counted


def call_set(state, numbers):
    """Let the rule tell something else of a view; tell what it told."""
    view = numbers[0]
    done = numbers[1]
    if not state.field.has_view(view):
        return no_such()
    if done > 2 or (done > 1 and state.field.evens[view]):
        return not_let()
    was = state.rule[view]
    state.rule[view] = done
    return [was]


def call_rule(state, numbers):
    """Tell what the rule tells of each view."""
    return counted(state.rule)
