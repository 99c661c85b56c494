"""What is wanted in the folder, what of it is there, and where its texts lie on the shelf."""

from foldkeep.shown import shown_at, shown_tree


def heads_known(state):
    """The contents of all known lines, by head."""
    return {line[1]: line[4] for line in state.know.lines()}


def shares(ids, others):
    """True if one of the ids is among the others."""
    for edit_id in ids:
        if edit_id in others:
            return True
    return False


def wanted(state):
    """The list of what is shown, without the files that have a head that is put away."""
    tree = shown_tree(state.rule, state.taken, state.know.lines())
    away = {head: True for head, _, _ in state.away}
    return [entry for entry in tree if entry[2] is None or not shares(entry[3], away)]


def wanted_at(entries, path):
    """The first of these shown entries with this path, or None."""
    for entry in entries:
        if entry[0] == path:
            return entry
    return None


def suits(entries, item):
    """True if one of the wanted entries has the path and the content of the placed entry."""
    return shown_at(entries, item.path, item.content) is not None


def serves_among(heads, ids, kept_ids):
    """True if what stands for `kept_ids` serves `ids`, where `heads` are the contents of all lines, by head."""
    return shares(kept_ids, ids) or not shares(kept_ids, heads)


def serves(state, ids, was):
    """True if what is kept as `was` serves these heads."""
    return serves_among(heads_known(state), ids, was.ids)


def is_reserved(state, place):
    """True if the place is held for another device."""
    for _, _, _, held in state.holding:
        if held == place:
            return True
    return False


def lies_at(state, heads, content, ids):
    """The place at which a text with this content lies for these ids, where `heads` are as above; or None."""
    for entry in state.shelf:
        if entry.purpose[0] == "kept":
            was = entry.purpose[1]
            if was.content == content and serves_among(heads, ids, was.ids) and not is_reserved(state, entry.place):
                return entry.place
    return None


def text_place(state, content, ids):
    """The place at which the text of a wanted file with this content and these heads lies, or None."""
    return lies_at(state, heads_known(state), content, ids)


def waits(state, path):
    """True if the path waits for the next scan."""
    return path in state.late or "" in path
