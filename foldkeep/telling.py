"""How what stands at a path is told of: its names, its place, and which heads a write replaces."""

from foldkeep.state import had_at, placed_at


def names_at(placed, path, own):
    """The names of a path among some entries, with this own name."""
    above = placed_at(placed, path[:-1])
    if above is None:
        return path[:-1] + (own,)
    return above.names + (own,)


def nearest_folder(placed, path):
    """The folder entry with the longest path above this one that stands for a head, or None."""
    nearest = None
    for entry in placed:
        if entry.content is None and entry.ids != () and is_above(entry.path, path):
            # Of several with the same path the last one counts.
            if nearest is None or len(entry.path) >= len(nearest.path):
                nearest = entry
    return nearest


def is_above(above, path):
    """True if the first path is a proper beginning of the second one."""
    return len(above) < len(path) and path[:len(above)] == above


def place_at(placed, path, own):
    """The place of a path among some entries, with this own name."""
    names = names_at(placed, path, own)
    nearest = nearest_folder(placed, path)
    if nearest is None:
        return (None, names, names)
    return (nearest.ids[0], names[len(nearest.names):], names)


def last_name(names):
    """The last one of the names; the empty string if there is none."""
    if names == ():
        return ""
    return names[-1]


def own_name(entry, path):
    """The own name that a placed entry has at a path."""
    if path[-1:] == entry.path[-1:]:
        return last_name(entry.names)
    return last_name(path)


def has_own_edit(state, ids):
    """True if one of the heads is an edit of this device."""
    for _, device in ids:
        if device == state.me:
            return True
    return False


def replaced_by(state, had, read, was, thing, cuts):
    """The heads that a write over the placed file `was` replaces."""
    had_there = had_at(had, was.path)
    if thing == was.thing and (cuts == was.cuts or not state.rule.cuts):
        return was.ids
    if read or was.ids == had_there or has_own_edit(state, was.ids):
        return was.ids
    return had_there
