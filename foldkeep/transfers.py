"""Texts that come in are laid on the shelf, piece by piece."""

from foldkeep.expected import is_awaited, is_coming, is_whole
from foldkeep.wanted import heads_known


def fits_now(state, head, start):
    """True if the head comes in, is not whole there, and goes on at this start."""
    return is_awaited(state, head, start)


def piece_at(state, head, start):
    """The text of the first piece that has come for the head and starts there, or None."""
    for known, begin, text in state.pieces:
        if known == head and begin == start:
            return text
    return None


def staging_of(state, heads, entry):
    """The operation that brings a coming entry nearer to its end, or None, where `heads` are all heads."""
    _, head, mark = entry.purpose
    length, _, _, runs = mark
    if head not in heads:
        if entry.thing == 0:
            return None
        return ("drop", entry.place, entry.count)
    if is_whole(entry):
        return None
    if length == 0:
        return ("stage", entry.place, "", runs)
    text = piece_at(state, head, entry.length)
    if text is None:
        return None
    return ("stage", entry.place, text[:max(0, length - entry.length)], runs)


def next_staging(state):
    """The next operation for what comes in, or None."""
    heads = heads_known(state)
    for entry in state.shelf:
        if is_coming(entry):
            operation = staging_of(state, heads, entry)
            if operation is not None:
                return operation
    return None
