"""The calls that move the robots, take moves back, and tell what may come and what came.

Each function here takes the state and the call's own numbers, and tells the numbers that are answered.
"""

from ringgather.refusals import may_not_come, no_such, none_may_come, none_to_take, not_let
from ringgather.told import counted

MOST_RUN = 60


def call_next(state, numbers):
    """Tell which names may come by one move."""
    return counted(state.ahead())


def call_go(state, numbers):
    """Let a name come; tell how many names past tells."""
    name = numbers[0]
    if not state.field.has_name(name):
        return no_such()
    if name not in state.ahead():
        return may_not_come()
    state.come(name)
    return [len(state.past)]


def one_chosen(state, helped):
    """Let one name come, chosen against them or helped; tell which."""
    if state.run(1, helped) == 0:
        return none_may_come()
    return [state.name_now()]


def call_against(state, numbers):
    """Let the name come that is chosen against them."""
    return one_chosen(state, False)


def call_helped(state, numbers):
    """Let the name come that is chosen to help them."""
    return one_chosen(state, True)


def many_chosen(state, most, helped):
    """Let names come, chosen against them or helped; tell how many, which is there, and 1 if they rest."""
    if most > MOST_RUN:
        return not_let()
    came = state.run(most, helped)
    return [came, state.name_now(), 1 if state.rests() else 0]


def call_run(state, numbers):
    """Let names come that are chosen against them."""
    return many_chosen(state, numbers[0], False)


def call_runhelped(state, numbers):
    """Let names come that are chosen to help them."""
    return many_chosen(state, numbers[0], True)


def call_back(state, numbers):
    """Let the ring be the name that was ahead; tell which."""
    if len(state.past) == 1:
        return none_to_take()
    state.past.pop()
    return [state.name_now()]


def call_past(state, numbers):
    """Tell the names that came."""
    return counted(state.past)
