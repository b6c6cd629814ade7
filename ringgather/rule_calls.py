"""The calls that change the rule of now, and tell it, and which marked names gather by it.

Each function here takes the state and the call's own numbers, and tells the numbers that are answered.
"""

from ringgather.moves import graph_by
from ringgather.plays import sure_names
from ringgather.refusals import no_such, not_let
from ringgather.told import counted


def refused_to_set(state, view, done):
    """Tell the refusal if a rule may not tell so of a view, else None."""
    if not state.field.has_view(view):
        return no_such()
    if done > 2 or (done > 1 and state.field.evens[view]):
        return not_let()
    return None


def call_set(state, numbers):
    """Let the rule tell something else of a view; tell what it told."""
    view = numbers[0]
    done = numbers[1]
    refused = refused_to_set(state, view, done)
    if refused is not None:
        return refused
    was = state.rule[view]
    state.rule[view] = done
    return [was]


def call_rule(state, numbers):
    """Tell what the rule tells of each view."""
    return counted(state.rule)


def gathered_by(state, rule):
    """Tell how many of the marked names gather surely by a rule."""
    sure = sure_names(state.field.names, graph_by(state.field, rule, state.moves))
    return len([name for name in state.marked if name in sure])


def call_good(state, numbers):
    """Tell how many of the marked names gather surely, then how many are marked."""
    return [gathered_by(state, state.rule), len(state.marked)]


def call_ifset(state, numbers):
    """Tell how many marked names would gather surely if the rule told something else, then how many do."""
    view = numbers[0]
    done = numbers[1]
    refused = refused_to_set(state, view, done)
    if refused is not None:
        return refused
    changed = list(state.rule)
    changed[view] = done
    return [gathered_by(state, changed), gathered_by(state, state.rule)]
