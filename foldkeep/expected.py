"""Texts that are to come: where they come in, where they are, and what is asked for."""

from foldkeep.state import Shelved
from foldkeep.wanted import heads_known, lies_at, serves_among, waits, wanted


def is_coming(entry):
    """True if a text comes in at the entry of the shelf."""
    return entry.purpose[0] == "coming"


def coming_index(state, head):
    """The index of the entry of the shelf at which the head comes in, or None."""
    for at, entry in enumerate(state.shelf):
        if is_coming(entry) and entry.purpose[1] == head:
            return at
    return None


def coming_entry(state, head):
    """The entry of the shelf at which the head comes in, or None."""
    at = coming_index(state, head)
    if at is None:
        return None
    return state.shelf[at]


def is_whole(entry):
    """True if the whole text of a coming entry lies on the shelf."""
    return entry.thing != 0 and entry.length >= entry.purpose[2][0]


def mark_of_head(state, head):
    """The content of the line that has this head, or None."""
    return heads_known(state).get(head)


def has_text(item, head, content):
    """True if the placed entry has the text of the head, where `content` is the one of the head's line."""
    return item.content is not None and (head in item.ids or item.content == content)


def source(state, head):
    """Where the text of the head is: a tuple (operation, thing, count), or None."""
    return source_among(state, heads_known(state), head)


def source_among(state, heads, head):
    """The source of the head, where `heads` are the contents of all lines, by head."""
    content = heads.get(head)
    for item in state.placed:
        if has_text(item, head, content) and not waits(state, item.path):
            return (("read", item.path), item.thing, item.count)
    for entry in state.shelf:
        if entry.purpose[0] == "kept" and has_text(entry.purpose[1], head, content):
            return (("read_shelf", entry.place), entry.thing, entry.count)
    return None


def is_lacking(state, heads, paths, goal):
    """True if a wanted file is lacking, where `heads` are as above and `paths` those at which something is wanted."""
    path, _, content, ids, _ = goal
    for item in state.placed:
        if item.content == content:
            if item.path == path or (item.path not in paths and serves_among(heads, ids, item.ids)):
                return False
    return lies_at(state, heads, content, ids) is None


def lacking(state):
    """The pairs (head, mark) of all lacking files: the first head for which each stands, and its content."""
    goals = wanted(state)
    heads = heads_known(state)
    paths = {goal[0]: True for goal in goals}
    pairs = []
    for goal in goals:
        _, _, content, ids, _ = goal
        if content is not None and ids != () and is_lacking(state, heads, paths, goal):
            pairs.append((ids[0], content))
    return pairs


def expect(state, head, mark):
    """Lets the head come in at a new place of the shelf, if it does not come in yet."""
    if coming_entry(state, head) is None:
        state.shelf.append(Shelved(state.next_place, 0, 0, 0, 0, ("coming", head, mark)))
        state.next_place += 1


def is_awaited(state, head, start):
    """True if the head comes in, is not whole there, and goes on at this start."""
    entry = coming_entry(state, head)
    return entry is not None and not is_whole(entry) and entry.length == start


def has_request(requests, device, head):
    """True if a request of the device for the head is among these."""
    for asked_by, asked, _ in requests:
        if asked_by == device and asked == head:
            return True
    return False


def has_piece(state, head, start):
    """True if a piece has come for the head that starts there."""
    for known, begin, _ in state.pieces:
        if known == head and begin == start:
            return True
    return False


def needs_request(state, heads, waiting, entry):
    """True if a request is to be added for a coming entry, where `waiting` are those that wait."""
    head = entry.purpose[1]
    if has_request(waiting, state.me, head) or has_piece(state, head, entry.length):
        return False
    return is_whole(entry) or source_among(state, heads, head) is not None


def see_to_coming(state):
    """Sees to what is to come."""
    heads = heads_known(state)
    state.shelf = [
        entry for entry in state.shelf if not is_coming(entry) or entry.thing != 0 or entry.purpose[1] in heads
    ]
    for head, mark in lacking(state):
        expect(state, head, mark)
    state.pieces = [piece for piece in state.pieces if is_awaited(state, piece[0], piece[1])]
    waiting = list(state.requests)
    for entry in state.shelf:
        if is_coming(entry) and needs_request(state, heads, waiting, entry):
            state.requests.append((state.me, entry.purpose[1], entry.length))
