"""Requests for texts: how they are served, and what is said and heard of them."""

from foldkeep.expected import coming_entry, coming_index, has_piece, is_coming, is_whole, source, source_among
from foldkeep.marks import MOST_PIECE, mark_of, piece_of
from foldkeep.state import Placed, Shelved, shelf_index
from foldkeep.transfers import fits_now
from foldkeep.wanted import heads_known

MOST_REQUESTS = 64


def serving_operation(state, request):
    """The operation that serves the request, or None."""
    return serving_among(state, heads_known(state), request)


def serving_among(state, heads, request):
    """The operation that serves the request, or None, where `heads` are the contents of all lines, by head."""
    device, head, _ = request
    if device == state.me:
        entry = coming_entry(state, head)
        if entry is None:
            return None
        if is_whole(entry):
            return ("read_shelf", entry.place)
    known = source_among(state, heads, head)
    if known is None:
        return None
    return known[0]


def served(state, answer):
    """Takes in what the host answered for the first request; returns the pairs (device, word) that are said then."""
    state.stage = ("idle",)
    if state.requests == []:
        return []
    request = state.requests[0]
    state.requests = state.requests[1:]
    if request[0] == state.me:
        served_here(state, request, answer)
        return []
    return said_of(state, request, answer)


def said_of(state, request, answer):
    """What is said to another device that asked for a text, as pairs (device, word)."""
    device, head, start = request
    if answer[0] != "text" or not is_from_source(state, request, answer):
        return []
    return [(device, ("piece", head, start, piece_of(answer[4], start)))]


def is_from_source(state, request, answer):
    """True if a text is still the one of the head's source, and goes on where the request starts."""
    _, head, start = request
    _, thing, count, _, text, _ = answer
    known = source(state, head)
    return known is not None and known[1:] == (thing, count) and start < len(text)


def served_here(state, request, answer):
    """Takes in what was answered for a request of the own device."""
    _, head, start = request
    at = coming_index(state, head)
    whole = at is not None and is_whole(state.shelf[at])
    if answer[0] != "text":
        if not whole:
            misread(state, head, 0, 0, 0, 0)
    elif whole:
        keep_whole(state, at, answer)
    elif at is not None:
        _, thing, count, cuts, text, _ = answer
        if is_from_source(state, request, answer):
            state.pieces.append((head, start, piece_of(text, start)))
        else:
            misread(state, head, thing, count, cuts, len(text))


def keep_whole(state, at, answer):
    """Keeps what came in whole at an entry of the shelf, if it is still the thing that was read."""
    _, thing, count, cuts, text, runs = answer
    entry = state.shelf[at]
    if thing != entry.thing:
        return
    _, head, mark = entry.purpose
    content = mark_of(text, runs)
    # A text that is not the expected one is kept all the same, but as nothing that stands for the head.
    ids = (head,) if content == mark else ()
    was = Placed((), (), thing, count, cuts, content, ids, None, False)
    state.shelf[at] = Shelved(entry.place, thing, count, cuts, len(text), ("kept", was))


def misread(state, head, thing, count, cuts, length):
    """Notes that the source of the head is not what it was taken for."""
    known = source(state, head)
    if known is None:
        return
    operation = known[0]
    if operation[0] == "read":
        state.late.append(operation[1])
        return
    at = shelf_index(state.shelf, operation[1])
    entry = state.shelf[at]
    if entry.purpose[0] == "kept" and entry.thing == thing:
        state.shelf[at] = Shelved(entry.place, thing, count, cuts, length, ("found", entry.purpose[1]))


def hear_ask(state, device, head, start):
    """Hears that a device asks for a text from this start on."""
    request = (device, head, start)
    if len(state.requests) >= MOST_REQUESTS or request in state.requests:
        return
    if serving_operation(state, request) is not None:
        state.requests.append(request)


def hear_piece(state, head, start, text):
    """Hears a piece of the text of a head."""
    if text == "" or len(text) > MOST_PIECE:
        return
    if fits_now(state, head, start) and not has_piece(state, head, start):
        state.pieces.append((head, start, text))


def say_asks(state):
    """The words that ask other devices for what is to come."""
    heads = heads_known(state)
    return [
        ("ask", entry.purpose[1], entry.length)
        for entry in state.shelf if is_coming(entry) and is_asked_for(state, heads, entry)
    ]


def is_asked_for(state, heads, entry):
    """True if other devices are asked for a coming entry, where `heads` are the contents of all lines, by head."""
    _, head, mark = entry.purpose
    if head not in heads or is_whole(entry) or mark[0] == 0:
        return False
    return not has_piece(state, head, entry.length) and source_among(state, heads, head) is None
