"""The first step at the end of a scan: what was placed is put right with what is shown by now."""

from foldkeep.finds import is_found
from foldkeep.shown import shown_at, shown_tree
from foldkeep.state import had_at, with_had, with_heads


def heads_left(shown, entry, heads):
    """The heads of what is shown that the entry stands for or that are among these heads, in their order."""
    return tuple([head for head in shown[3] if head in entry.ids or head in heads])


def put_right_entry(tree, heads, entry):
    """The entry, put right with what is shown at its path."""
    shown = shown_at(tree, entry.path, entry.content)
    if shown is None:
        return entry
    ids = heads_left(shown, entry, heads)
    if ids != ():
        return with_heads(entry, ids, shown[4])
    if entry.content is None:
        return with_heads(entry, (), None)
    return entry


def put_right_all(state, scan, finds):
    """The entries from before, put right, and what programs have had then."""
    tree = shown_tree(state.rule, scan.taken, state.know.lines())
    heads = {head: True for head in scan.heads}
    before = []
    had = list(state.had)
    for entry in state.placed:
        right = entry
        if is_found(finds, entry):
            right = put_right_entry(tree, heads, entry)
        if entry.content is not None and right.ids != entry.ids and had_at(had, entry.path) == entry.ids:
            had = with_had(had, entry.path, right.ids)
        before.append(right)
    return (before, had)
