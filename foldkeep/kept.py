"""What is kept on the shelf: what of it is spare, how it is dropped, and how it is restored."""

from foldkeep.away import is_away
from foldkeep.errors import NotNow
from foldkeep.holding import is_held
from foldkeep.names import is_name
from foldkeep.state import Placed, Shelved, shelf_index, shelved_at
from foldkeep.telling import names_at, place_at
from foldkeep.wanted import heads_known, shares


def is_given_up(state, head):
    """True if the head is put away and not to be fetched."""
    return is_away(state, head) and head not in state.fetching


def is_thing_known(state, thing):
    """True if a file with this thing is placed, or was expected where something goes back."""
    items = list(state.placed)
    for entry in state.shelf:
        if entry.purpose[0] == "back":
            items.append(entry.purpose[1])
    for item in items:
        if item.content is not None and item.thing == thing:
            return True
    return False


def is_kept_elsewhere(state, head, place):
    """True if a placed file or what is kept at another place stands for the head."""
    for item in state.placed:
        if item.content is not None and head in item.ids:
            return True
    for entry in state.shelf:
        if entry.purpose[0] == "kept" and entry.place != place and head in entry.purpose[1].ids:
            return True
    return False


def is_needed(state, entry):
    """True if a line has the content of a kept entry, and its text is not put away and kept nowhere else."""
    for _, head, _, _, content in state.know.lines():
        if content == entry.purpose[1].content:
            if not is_given_up(state, head) and not is_kept_elsewhere(state, head, entry.place):
                return True
    return False


def is_spare(state, entry):
    """True if the entry of the shelf is kept and spare."""
    if entry.purpose[0] != "kept" or is_held(state, entry.place):
        return False
    heads = heads_known(state)
    for head in entry.purpose[1].ids:
        if head in heads and not is_given_up(state, head):
            return False
    return not is_thing_known(state, entry.thing) and not is_needed(state, entry)


def wish_trim(state, most):
    """Lets the first spare entries be dropped, so that only so many are left."""
    spare = [entry.place for entry in state.shelf if is_spare(state, entry)]
    state.drops = spare[:max(0, len(spare) - most)]


def next_drop(state):
    """The next operation that drops a spare entry, or None."""
    while state.drops != []:
        place = state.drops[0]
        state.drops = state.drops[1:]
        entry = shelved_at(state.shelf, place)
        if entry is not None and is_spare(state, entry):
            return ("drop", place, entry.count)
    return None


def can_restore(state, place, path):
    """True if what lies at the place can be restored at the path."""
    entry = shelved_at(state.shelf, place)
    if entry is None or entry.purpose[0] != "kept" or entry.purpose[1].content is None:
        return False
    if path == () or [name for name in path if not is_name(name)] != []:
        return False
    if state.pending is not None or is_held(state, place):
        return False
    return not shares(entry.purpose[1].ids, heads_known(state))


def wish_restore(state, place, path):
    """Tells of what is kept at the place as a new file at the path."""
    if not can_restore(state, place, path):
        raise NotNow("nothing there can be restored at this path")
    at = shelf_index(state.shelf, place)
    entry = state.shelf[at]
    was = entry.purpose[1]
    names = names_at(state.placed, path, path[-1])
    edit = state.know.write(state.me, place_at(state.placed, path, path[-1]), was.content, None, ())
    head = edit[1]
    restored = Placed(path, names, was.thing, was.count, was.cuts, was.content, (head,), head, was.seen)
    state.shelf[at] = Shelved(place, entry.thing, entry.count, entry.cuts, entry.length, ("kept", restored))
