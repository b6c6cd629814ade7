"""The calls that begin, place the robots, and tell of names and views.

Each function here takes the state and the call's own numbers, and tells the numbers that are answered.
"""

from ringgather.refusals import no_such, not_let
from ringgather.told import counted


def call_begin(state, numbers):
    """Start with rings of so many places, such eyes, so many robots, and moves so."""
    places = numbers[0]
    eyes = numbers[1]
    robots = numbers[2]
    moves = numbers[3]
    if places < 3 or places > 7 or eyes > 2 or robots < 1 or robots > 3 or moves > 2:
        return not_let()
    state.begin(places, eyes, robots, moves)
    return [len(state.field.views)]


def call_at(state, numbers):
    """Change how moves are; tell how they were."""
    if numbers[0] > 2:
        return not_let()
    was = state.moves
    state.moves = numbers[0]
    return [was]


def call_names(state, numbers):
    """Tell how many names there are."""
    return [len(state.field.names)]


def call_name(state, numbers):
    """Tell a name: how many places, and how many robots at each."""
    if not state.field.has_name(numbers[0]):
        return no_such()
    return counted(state.field.names[numbers[0]])


def call_place(state, numbers):
    """Let the ring be a name; tell which it was."""
    if not state.field.has_name(numbers[0]):
        return no_such()
    was = state.name_now()
    state.put(numbers[0])
    return [was]


def call_ring(state, numbers):
    """Tell which name the ring is, and how many robots are at each of its places."""
    now = state.name_now()
    return [now] + list(state.field.names[now])


def call_sees(state, numbers):
    """Tell which views robots have in the ring."""
    return counted(state.field.views_in(state.name_now()))


def call_view(state, numbers):
    """Tell whether a view is even-handed, and its lesser row."""
    view = numbers[0]
    if not state.field.has_view(view):
        return no_such()
    even = 1 if state.field.evens[view] else 0
    return [even] + list(state.field.views[view])


def call_told(state, numbers):
    """Tell how many places, which eyes, how many robots, how moves are, how many are marked, how many came."""
    field = state.field
    return [field.places, field.eyes, field.robots, state.moves, len(state.marked), len(state.past)]
