"""The interface: calls are read from one list, and answered in one."""

from ringgather.finding_calls import call_allat, call_best, call_eyesenough, call_found, call_take, call_why
from ringgather.gathering_calls import call_longest, call_rest, call_soonest, call_sure
from ringgather.marking_calls import call_mark, call_markapart, call_marks, call_unmark
from ringgather.moving_calls import call_against, call_back, call_go, call_helped, call_next
from ringgather.moving_calls import call_past, call_run, call_runhelped
from ringgather.refusals import not_begun
from ringgather.rule_calls import call_good, call_ifset, call_rule, call_set
from ringgather.seeing_calls import call_at, call_begin, call_name, call_names
from ringgather.seeing_calls import call_place, call_ring, call_sees, call_told, call_view
from ringgather.state import State
from ringgather.told import counted

BEGIN = 0

# How many numbers each call has, by the call's own number.
ARGUMENTS = (
    4, 1, 0, 1, 1, 0, 0, 1, 2, 0, 0, 1,
    0, 0, 1, 1, 0, 0, 0, 0, 0, 0, 1, 1,
    0, 0, 0, 2, 0, 0, 0, 0, 0, 0, 0,
)


def answerer_of(call):
    """Tell the function that answers a call, by the call's number."""
    answerers = (
        call_begin, call_at, call_names, call_name, call_place, call_ring,
        call_sees, call_view, call_set, call_rule, call_next, call_go,
        call_against, call_helped, call_run, call_runhelped, call_back, call_past,
        call_rest, call_sure, call_longest, call_soonest, call_mark, call_unmark,
        call_markapart, call_marks, call_good, call_ifset, call_found, call_take,
        call_best, call_why, call_eyesenough, call_allat, call_told,
    )
    return answerers[call]


def answer(state, call, numbers):
    """Tell the numbers that one call is answered."""
    if state.field is None and call != BEGIN:
        return not_begun()
    answerer = answerer_of(call)
    return answerer(state, numbers)


def answers(calls):
    """Answer the calls on one new object: of each how many numbers are answered, then these."""
    state = State()
    told = []
    at = 0
    while at < len(calls):
        call = calls[at]
        behind = at + 1 + ARGUMENTS[call]
        told.extend(counted(answer(state, call, calls[at + 1:behind])))
        at = behind
    return told
