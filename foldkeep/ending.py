"""The end of a scan: what was found becomes edits and the entries that are placed from then on."""

from foldkeep.dropping import tell_removals
from foldkeep.finds import Finds, is_at_path, is_missing, is_waiting, kind_of, placed_as
from foldkeep.lines import find_head, lines_after, settle, stands
from foldkeep.righting import heads_left, put_right_all
from foldkeep.shown import shown_at, shown_tree
from foldkeep.state import Placed, had_at, with_had, with_heads
from foldkeep.telling import last_name, names_at, nearest_folder, own_name, place_at, replaced_by


class Ending:
    """What is at hand while a scan ends."""

    def __init__(self, state, scan):
        self.state = state
        self.scan = scan
        self.finds = Finds(scan, state.placed)
        # The lines that were known before the scan made edits, and those that are known by now.
        self.first_lines = state.know.lines()
        self.known_lines = self.first_lines
        # The entries from before, and what programs had had, as they were put right.
        before, had = put_right_all(state, scan, self.finds)
        self.before = before
        self.had_before = had
        self.had = had
        # The entries that are placed afterwards.
        self.made = []
        # The entries of the move that is to be made.
        self.moved = []
        self.movable = movable_entries(self.finds, self.before)


def movable_entries(finds, before):
    """By kind and thing, the first entry that can have been moved away from its path."""
    movable = {"file": {}, "folder": {}}
    if not finds.at_rest:
        return movable
    for entry in before:
        if not is_at_path(finds, entry) and (entry.content is not None or entry.ids != ()):
            movable[kind_of(entry)].setdefault(entry.thing, entry)
    return movable


def moved_here(end, found):
    """The entry that was moved to where this was found, or None."""
    if placed_as(end.before, found.path, found.kind) is not None:
        return None
    if found.kind == "file" and found.mark is None:
        return None
    return end.movable[found.kind].get(found.thing)


def heads_of_move(end, entry, path, place):
    """Those heads of an entry that are moved when it comes to this path and place."""
    inside, below, _ = place_at(end.before, entry.path, last_name(entry.names))
    if (inside, below) != place[:2]:
        return entry.ids
    nearest = nearest_folder(end.made, path)
    folder_heads = () if nearest is None else nearest.ids
    heads = []
    for head in entry.ids:
        line = find_head(end.first_lines, head)
        if line is not None and stands(end.first_lines, line) == entry.names:
            settled = (line[2], line[3]) == settle(end.first_lines, place)
            if not settled and not (line[3] == place[1] and line[2] in folder_heads):
                heads.append(head)
    return heads


def note_move(end, entry, path):
    """Notes which heads of the entry are moved when it comes to this path."""
    place = place_at(end.made, path, own_name(entry, path))
    for head in heads_of_move(end, entry, path, place):
        line = find_head(end.first_lines, head)
        if line is not None:
            line_id = line[0]
        elif entry.line is not None:
            line_id = entry.line
        else:
            line_id = head
        end.moved.append((head, line_id, place))


def bring_had(end, old, path):
    """Lets programs have had at the path what they had had at the old one, and there nothing."""
    ids = had_at(end.had_before, old)
    end.had = with_had(with_had(end.had, old, ()), path, ids)


def make_folder_entry(end, found):
    """Makes the entry of a folder that was found."""
    path = found.path
    entry = placed_as(end.before, path, "folder")
    if entry is None:
        entry = moved_here(end, found)
        if entry is None:
            end.made.append(new_folder(end, found))
            return
        note_move(end, entry, path)
        bring_had(end, entry.path, path)
    names = names_at(end.made, path, own_name(entry, path))
    end.made.append(
        Placed(path, names, found.thing, entry.count, entry.cuts, None, entry.ids, entry.line, True),
    )


def write(end, place, content, line_id, replaces):
    """Makes a write and returns its id."""
    edit = end.state.know.write(end.state.me, place, content, line_id, replaces)
    end.known_lines = lines_after(end.known_lines, edit)
    return edit[1]


def new_folder(end, found):
    """The entry of a new folder, which is told of."""
    path = found.path
    own = last_name(path)
    edit_id = write(end, place_at(end.made, path, own), None, None, ())
    return Placed(path, names_at(end.made, path, own), found.thing, 0, 0, None, (edit_id,), edit_id, True)


def make_file_entry(end, found):
    """Makes the entry of a file that was found, if there is to be one."""
    path = found.path
    entry = placed_as(end.before, path, "file")
    if found.mark is None:
        if entry is not None:
            end.made.append(entry)
        return
    if entry is None:
        entry = moved_here(end, found)
        if entry is None:
            write_file(end, found, last_name(path), None, ())
            return
        bring_had(end, entry.path, path)
    own = own_name(entry, path)
    if entry.content == found.mark:
        names = names_at(end.made, path, own)
        end.made.append(
            Placed(path, names, found.thing, found.count, found.cuts, found.mark, entry.ids, entry.line, True),
        )
    else:
        write_file(end, found, own, entry.line, replaced_at(end, found, entry))


def replaced_at(end, found, entry):
    """The heads that are replaced where the file of an entry, perhaps moved, was found with another mark."""
    was = Placed(
        found.path, entry.names, entry.thing, entry.count, entry.cuts, entry.content, entry.ids, entry.line, entry.seen,
    )
    # What programs had had came along with the entry, so it stands at the path of what was found.
    read = (entry.thing, entry.count) in end.scan.have_read
    return replaced_by(end.state, end.had, read, was, found.thing, found.cuts)


def write_file(end, found, own, line_id, replaces):
    """Tells of a file as it was found, and makes its entry."""
    path = found.path
    names = names_at(end.made, path, own)
    edit_id = write(end, place_at(end.made, path, own), found.mark, line_id, replaces)
    line = find_head(end.known_lines, edit_id)
    end.made.append(
        Placed(path, names, found.thing, found.count, found.cuts, found.mark, (edit_id,), line[0], True),
    )
    end.had = with_had(end.had, path, (edit_id,))


def join_heads(end):
    """Lets what is seen stand for all heads with its content that were known when the scan started."""
    tree = shown_tree(end.state.rule, end.scan.taken, end.known_lines)
    heads = {head: True for head in end.scan.heads}
    made = []
    for entry in end.made:
        shown = shown_at(tree, entry.path, entry.content)
        joined = entry
        if entry.seen and shown is not None:
            joined = joined_entry(end, entry, shown, heads)
        made.append(joined)
    end.made = made


def joined_entry(end, entry, shown, heads):
    """The entry, standing for the joined heads if all of its own are among them."""
    ids = heads_left(shown, entry, heads)
    if ids == () or [head for head in entry.ids if head not in ids] != []:
        return entry
    if entry.content is not None and had_at(end.had, entry.path) == entry.ids:
        end.had = with_had(end.had, entry.path, ids)
    return with_heads(entry, ids, shown[4])


def make_entries(end):
    """Makes the entries of all that was found, folders first, and the edits that tell of them."""
    for found in end.scan.found:
        if found.kind == "folder":
            make_folder_entry(end, found)
    for found in end.scan.found:
        if found.kind == "file":
            entry = moved_here(end, found)
            if entry is not None:
                note_move(end, entry, found.path)
    if end.moved != []:
        edit = end.state.know.move(end.state.me, end.moved)
        end.known_lines = lines_after(end.known_lines, edit)
    for found in end.scan.found:
        if found.kind == "file":
            make_file_entry(end, found)


def end_scan(state, scan):
    """Ends a scan that has nothing left to be asked."""
    end = Ending(state, scan)
    make_entries(end)
    if scan.at_rest:
        tell_removals(end)
        join_heads(end)
        end.made.extend([entry for entry in end.before if is_waiting(end.finds, entry)])
    else:
        end.made.extend([entry for entry in end.before if is_missing(end.finds, entry)])
    state.placed = end.made
    state.had = end.had
    state.taken = list(scan.taken)
    state.late = []
    state.stage = ("look",)
    state.scan = None
