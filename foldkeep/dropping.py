"""What is told of entries that a scan did not find any more."""

from foldkeep.finds import is_missing, is_waiting
from foldkeep.lines import lines_after
from foldkeep.shown import shown_at, shown_tree
from foldkeep.state import with_had
from foldkeep.telling import is_above


def has_file_below(before, path):
    """True if a file was placed below the path."""
    for entry in before:
        if entry.content is not None and is_above(path, entry.path):
            return True
    return False


def folder_is_explained(end, path):
    """True if a folder was found at the path, or one that was placed there is missing."""
    if path in end.finds.paths["folder"]:
        return True
    for entry in end.before:
        if entry.content is None and entry.path == path and is_missing(end.finds, entry):
            return True
    return False


def was_removed(end, entry):
    """True if a missing entry was removed by a program."""
    if entry.seen:
        return True
    if "" in entry.path:
        return False
    if entry.content is not None:
        return True
    for length in range(1, len(entry.path)):
        if not folder_is_explained(end, entry.path[:length]):
            return False
    return has_file_below(end.before, entry.path)


def is_stood_for(tree, others, head):
    """True if one of these entries stands for the head, and what is shown there has the head."""
    for entry in others:
        if head in entry.ids:
            shown = shown_at(tree, entry.path, entry.content)
            if shown is not None and head in shown[3]:
                return True
    return False


def dropped_heads(tree, others, entry):
    """The heads of a removed entry that are dropped."""
    shown = shown_at(tree, entry.path, entry.content)
    if shown is not None:
        return [head for head in entry.ids if head in shown[3]]
    return [head for head in entry.ids if not is_stood_for(tree, others, head)]


def tell_removals(end):
    """Drops the heads of the entries that were removed."""
    tree = shown_tree(end.state.rule, end.scan.taken, end.known_lines)
    others = end.made + [entry for entry in end.before if is_waiting(end.finds, entry)]
    heads = []
    for entry in end.before:
        if is_missing(end.finds, entry) and was_removed(end, entry):
            heads.extend(dropped_heads(tree, others, entry))
            end.had = with_had(end.had, entry.path, ())
    if heads != []:
        edit = end.state.know.drop(end.state.me, heads)
        end.known_lines = lines_after(end.known_lines, edit)
