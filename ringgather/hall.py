"""The interface: calls are read from one list, and answered in one."""

from ringgather.moving_calls import call_against, call_back, call_go, call_helped, call_next
from ringgather.moving_calls import call_past, call_run, call_runhelped
from ringgather.refusals import not_begun
from ringgather.rule_calls import call_rule, call_set
from ringgather.seeing_calls import call_at, call_begin, call_name, call_names
from ringgather.seeing_calls import call_place, call_ring, call_sees, call_view
from ringgather.state import State
from ringgather.told import counted

BEGIN = 0

# How many numbers each call has, by the call's own number: also of those that aren't answered
# yet, as ahead of the first begin any call is refused, and the next one must be found behind it.
ARGUMENTS = (
    4, 1, 0, 1, 1, 0, 0, 1, 2, 0, 0, 1,
    0, 0, 1, 1, 0, 0, 0, 0, 0, 0, 1, 1,
    0, 0, 0, 2, 0, 0, 0, 0, 0, 0, 0,
)


def answerer_of(call):
    """Tell the function that answers a call, by the call's number."""
    answerers = (
        call_begin, call_at, call_names, call_name, call_place, call_ring,
        call_sees, call_view, call_set, call_rule, call_next, call_go,
        call_against, call_helped, call_run, call_runhelped, call_back, call_past,
    )
    if call >= len(answerers):
        raise NotImplementedError(f"call {call} is not answered yet")
    return answerers[call]


def answer(state, call, numbers):
    """Tell the numbers that one call is answered."""
    if state.field is None and call != BEGIN:
        return not_begun()
    answerer = answerer_of(call)
    return answerer(state, numbers)


def answers(calls):
    """Answer the calls on one new object: of each how many numbers are answered, then these."""
    state = State()
    told = []
    at = 0
    while at < len(calls):
        call = calls[at]
        behind = at + 1 + ARGUMENTS[call]
        told.extend(counted(answer(state, call, calls[at + 1:behind])))
        at = behind
    return told
