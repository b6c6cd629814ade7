"""The calls that tell whether the ring gathers, and in how many moves.

Each function here takes the state and the call's own numbers, and tells the numbers that are answered.
"""

from ringgather.refusals import not_gathered


def call_rest(state, numbers):
    """Tell 1 if they're at rest together, else 0."""
    return [1 if state.rests() else 0]


def call_sure(state, numbers):
    """Tell 1 if the ring gathers surely, else 0."""
    return [0 if state.moves_from_now(False) is None else 1]


def moves_told(moves):
    """Tell how many moves it takes, or refuse if it is None."""
    if moves is None:
        return not_gathered()
    return [moves]


def call_longest(state, numbers):
    """Tell in how many moves at the most the ring gathers surely."""
    return moves_told(state.moves_from_now(False))


def call_soonest(state, numbers):
    """Tell in how few moves the ring can come to rest together."""
    return moves_told(state.moves_from_now(True))
