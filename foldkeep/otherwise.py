"""What was found on the shelf where something else was expected."""

from foldkeep.lines import find_head
from foldkeep.marks import mark_of
from foldkeep.state import Placed, Shelved, shelf_index, with_had
from foldkeep.telling import last_name, place_at, replaced_by


def read_found(state, place, was_read, answer):
    """Takes in the text of what was found at a place of the shelf."""
    state.stage = ("idle",)
    at = shelf_index(state.shelf, place)
    if at is None or state.shelf[at].purpose[0] != "found":
        return
    _, thing, count, cuts, text, runs = answer
    was = state.shelf[at].purpose[1]
    content = mark_of(text, runs)
    ids = was.ids
    line = was.line
    seen = was.seen
    if content != was.content:
        ids = (tell_of(state, was, was_read, answer, content),)
        line = find_head(state.know.lines(), ids[0])[0]
        seen = False
    kept = Placed(was.path, was.names, thing, count, cuts, content, ids, line, seen)
    state.shelf[at] = Shelved(place, thing, count, cuts, len(text), ("kept", kept))


def tell_of(state, was, was_read, answer, content):
    """Tells of what was found where `was` was expected, and returns the id of the edit."""
    _, thing, _, cuts, _, _ = answer
    replaces = replaced_by(state, state.had, was_read, was, thing, cuts)
    there = place_at(state.placed, was.path, last_name(was.names))
    edit = state.know.write(state.me, there, content, was.line, replaces)
    state.had = with_had(state.had, was.path, (edit[1],))
    return edit[1]
