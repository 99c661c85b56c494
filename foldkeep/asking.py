"""What a keeper asks its host for."""

from foldkeep.away import see_to_away
from foldkeep.changes import ask_for, next_change
from foldkeep.expected import see_to_coming
from foldkeep.kept import next_drop
from foldkeep.scanning import scan_question
from foldkeep.serving import serving_among, serving_operation
from foldkeep.transfers import next_staging
from foldkeep.wanted import heads_known


def question_of(state):
    """The operation that the keeper asks for, or None."""
    operation = question_at_hand(state)
    if operation is None:
        operation = next_question(state)
    return operation


def question_at_hand(state):
    """The operation for what the keeper is about; None if it is idle, or becomes idle by this."""
    kind = state.stage[0]
    if kind == "look":
        return ("shelf",)
    if kind == "reading":
        return ("read_shelf", state.stage[1])
    if kind == "scan":
        return scan_question(state.scan)
    if kind == "asking":
        return question_on_found(state)
    if kind == "serving":
        return question_on_request(state)
    return None


def question_on_found(state):
    """Asks whether programs have read what was expected where something else was found; None if nothing was found."""
    for entry in state.shelf:
        if entry.purpose[0] == "found":
            was = entry.purpose[1]
            state.stage = ("asking", entry.place)
            return ("was_read", was.thing, was.count)
    state.stage = ("idle",)
    return None


def question_on_request(state):
    """The operation for the first request; a request that cannot be served any more is removed."""
    if state.requests != []:
        operation = serving_operation(state, state.requests[0])
        if operation is not None:
            return operation
        state.requests = state.requests[1:]
    state.stage = ("idle",)
    return None


def next_question(state):
    """The operation that an idle keeper asks for next, or None."""
    see_to_away(state)
    see_to_coming(state)
    operation = question_on_found(state)
    if operation is None:
        operation = asked_for(state, next_staging(state))
    if operation is None:
        operation = next_serving(state)
    if operation is None:
        operation = asked_for(state, next_change(state))
    if operation is None:
        operation = asked_for(state, next_drop(state))
    return operation


def asked_for(state, operation):
    """Asks for the operation as for a change, if there is one, and returns it."""
    if operation is not None:
        ask_for(state, operation)
    return operation


def next_serving(state):
    """The operation for the first request that can be served, or None; those that cannot are removed."""
    heads = heads_known(state)
    state.requests = [request for request in state.requests if serving_among(state, heads, request) is not None]
    if state.requests == []:
        return None
    state.stage = ("serving",)
    return serving_among(state, heads, state.requests[0])
