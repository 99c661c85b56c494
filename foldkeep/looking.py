"""Looking at the shelf: what lies there puts its entries right, and tells what became of the change that was asked for.

What lies on the shelf is a list of tuples (place, thing, kind, count, cuts, length).
"""

from foldkeep.state import Placed, Shelved, file_at, had_at, placed_at, shelf_index, shelved_at, with_heads
from foldkeep.telling import has_own_edit


def lying_at(lying, place):
    """The first entry of the list that lies at this place, or None."""
    for row in lying:
        if row[0] == place:
            return row
    return None


def put_right(shelf, lying):
    """A new list, the entries of a shelf as what lies there puts them right."""
    right = []
    for entry in shelf:
        row = lying_at(lying, entry.place)
        if row is not None:
            right.append(right_entry(entry, row))
        elif entry.purpose[0] == "coming":
            right.append(Shelved(entry.place, 0, 0, 0, 0, entry.purpose))
    return right


def right_entry(entry, row):
    """The entry as what lies at its place puts it right."""
    _, thing, _, count, cuts, length = row
    purpose = entry.purpose
    if purpose[0] == "kept":
        if entry.thing == thing and entry.count == count:
            return entry
        purpose = ("found", purpose[1])
    return Shelved(entry.place, thing, count, cuts, length, purpose)


def look(state, lying):
    """Looks at what lies on the shelf."""
    change = state.pending
    before = state.shelf
    state.shelf = put_right(before, lying)
    state.stage = ("idle",)
    state.pending = None
    if change is not None:
        decide(state, change, before, lying)


def decide(state, change, before, lying):
    """Tells what became of the change, where `before` is the shelf before it was put right."""
    operation = change[0]
    kind = operation[0]
    if kind == "take":
        after_take(state, operation[1], lying_at(lying, operation[2]))
    elif kind == "give" or kind == "swap":
        entry = shelved_at(before, operation[1])
        row = lying_at(lying, operation[1])
        if entry is not None and kind == "give":
            after_give(state, change, entry, row)
        elif entry is not None and row is not None:
            after_swap(state, change, entry, row)
    elif kind == "make_folder":
        after_make_folder(state, change)
    elif kind == "remove_folder":
        after_remove_folder(state, operation[1])


def after_take(state, path, row):
    """Tells what became of a take from the path, where `row` is what lies at its place by now, or None."""
    if row is None:
        state.late.append(path)
        return
    was = expected_at(state, path)
    remove_files(state, path)
    add_taken(state, was, row)


def expected_at(state, path):
    """The first file that is placed at the path, or a stand-in for it."""
    was = file_at(state.placed, path)
    if was is None:
        return Placed(path, path, 0, 0, 0, None, (), None, False)
    return was


def remove_files(state, path):
    """Removes the files that are placed at the path."""
    state.placed = [item for item in state.placed if item.path != path or item.content is None]


def add_taken(state, was, row):
    """Adds what lies on the shelf where `was` was expected."""
    place, thing, _, count, cuts, length = row
    state.shelf.append(Shelved(place, thing, count, cuts, length, purpose_of(state, was, row)))


def purpose_of(state, was, row):
    """The purpose of what lies on the shelf where `was` was expected."""
    _, thing, kind, count, _, _ = row
    if kind == "file":
        if was.content is not None and was.thing == thing and was.count == count:
            return ("kept", was)
        if not is_placed(state, thing, count):
            return ("found", was)
    return ("back", was, was.path, 0)


def is_placed(state, thing, count):
    """True if a file with just this thing and count is placed."""
    for item in state.placed:
        if item.content is not None and item.thing == thing and item.count == count:
            return True
    return False


def after_give(state, change, entry, row):
    """Tells what became of a give of the entry, where `row` is what lies at its place by now, or None."""
    goes_back = entry.purpose[0] == "back"
    if row is not None and goes_back:
        count_refusal(state, entry.place)
    elif row is not None:
        state.late.append(change[0][2])
    elif goes_back:
        put_back(state, entry.purpose[1])
    else:
        add_given(state, change, entry)


def put_back(state, was):
    """Tells that what lay on the shelf where `was` was expected went back to the folder."""
    path = was.path
    if was.ids == () or had_at(state.had, path) == was.ids or has_own_edit(state, was.ids):
        if placed_at(state.placed, path) is not None:
            # Nothing can stand at a path with an empty name, so the entry waits there for the next scan.
            was = Placed(
                path + ("",), was.names + ("",), was.thing, was.count, was.cuts, was.content, was.ids, was.line,
                was.seen,
            )
        state.placed.append(was)
    state.late.append(path)


def add_given(state, change, entry):
    """Adds an entry that came from the shelf to the folder to what is placed."""
    operation, names, ids, line, content = change
    state.placed.append(Placed(operation[2], names, entry.thing, entry.count, entry.cuts, content, ids, line, False))


def count_refusal(state, place):
    """Counts that what lies at the place and goes back was refused once more."""
    at = shelf_index(state.shelf, place)
    entry = state.shelf[at]
    _, was, path, tries = entry.purpose
    purpose = ("back", was, path, tries + 1)
    state.shelf[at] = Shelved(place, entry.thing, entry.count, entry.cuts, entry.length, purpose)
    if (tries + 1) % 4 == 0:
        state.late.append(path)


def after_swap(state, change, entry, row):
    """Tells what became of a swap with the entry, where `row` is what lies at its place by now."""
    path = change[0][2]
    if row[1] == entry.thing:
        state.late.append(path)
        return
    was = expected_at(state, path)
    remove_files(state, path)
    add_given(state, change, entry)
    del state.shelf[shelf_index(state.shelf, entry.place)]
    add_taken(state, was, row)


def after_make_folder(state, change):
    """Tells what became of the making of a folder."""
    operation, names, ids, line, _ = change
    path = operation[1]
    if placed_at(state.placed, path) is None:
        state.placed.append(Placed(path, names, 0, 0, 0, None, ids, line, False))


def after_remove_folder(state, path):
    """Tells what became of the removal of a folder: the next scan tells whether it is gone."""
    state.late.append(path)
    placed = []
    for item in state.placed:
        if item.path == path and item.content is None:
            placed.append(with_heads(item, (), None))
        else:
            placed.append(item)
    state.placed = placed
