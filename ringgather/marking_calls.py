"""The calls that mark names, and tell which are marked.

Each function here takes the state and the call's own numbers, and tells the numbers that are answered.
"""

from ringgather.refusals import marked_already, no_such, not_marked
from ringgather.rings import is_apart
from ringgather.told import counted


def call_mark(state, numbers):
    """Mark a name, too; tell how many are marked."""
    name = numbers[0]
    if not state.field.has_name(name):
        return no_such()
    if name in state.marked:
        return marked_already()
    state.marked = sorted(state.marked + [name])
    return [len(state.marked)]


def call_unmark(state, numbers):
    """Let a name be marked no more; tell how many are marked."""
    name = numbers[0]
    if not state.field.has_name(name):
        return no_such()
    if name not in state.marked:
        return not_marked()
    state.marked = [other for other in state.marked if other != name]
    return [len(state.marked)]


def call_markapart(state, numbers):
    """Mark the names where all robots are apart, and no others; tell how many are marked."""
    state.marked = [number for number, name in enumerate(state.field.names) if is_apart(name)]
    return [len(state.marked)]


def call_marks(state, numbers):
    """Tell, rising, which names are marked."""
    return counted(state.marked)
