"""Lines, and what edits do to them.

An edit, a place and a line are tuples whose parts stand in the order that the document lists.
"""


def find_line(lines, line_id):
    """The line with this line id, or None."""
    if line_id is None:
        return None
    for line in lines:
        if line[0] == line_id:
            return line
    return None


def find_head(lines, head):
    """The line with this head, or None."""
    for line in lines:
        if line[1] == head:
            return line
    return None


def stands(lines, line):
    """The path at which the line stands."""
    _, _, inside, path, _ = line
    while inside is not None:
        _, _, inside, below, _ = find_line(lines, inside)
        path = below + path
    return path


def settle(lines, place):
    """The pair (inside, below) at which the place settles."""
    inside, below, seen = place
    folder = find_line(lines, inside)
    if folder is None or folder[4] is not None:
        return (None, seen)
    return (inside, below)


def stands_in(lines, inside, line_id):
    """True if the folder line `inside` is the one with this line id, or stands in it at any depth."""
    while inside is not None:
        if inside == line_id:
            return True
        inside = find_line(lines, inside)[2]
    return False


def move_line(lines, head, line_id, place):
    """The lines after one entry of a move."""
    line = find_head(lines, head)
    if line is None:
        line = find_line(lines, line_id)
    if line is None:
        return list(lines)
    inside, below = settle(lines, place)
    if stands_in(lines, inside, line[0]):
        return list(lines)
    moved = (line[0], line[1], inside, below, line[4])
    return [moved if known[0] == line[0] else known for known in lines]


def without_line(lines, ended):
    """The lines after this line has ended; what stood inside it stands at the same path as before."""
    left = []
    for known in lines:
        line_id, head, inside, below, content = known
        if inside == ended[0]:
            left.append((line_id, head, ended[2], ended[3] + below, content))
        elif line_id != ended[0]:
            left.append(known)
    return left


def without_heads(lines, heads):
    """The lines after those with these heads have ended, one after another."""
    for head in heads:
        ended = find_head(lines, head)
        if ended is not None:
            lines = without_line(lines, ended)
    return lines


def with_new_line(lines, edit):
    """The lines with the one that a write begins."""
    _, edit_id, place, content, meant_id, _ = edit
    meant = find_line(lines, meant_id)
    if meant is None:
        inside, below = settle(lines, place)
    else:
        _, _, inside, below, _ = meant
    return [*lines, (edit_id, edit_id, inside, below, content)]


def first_replaced(lines, replaces):
    """The first line that is no folder line and whose head is replaced, or None."""
    if replaces == ():
        return None
    for line in lines:
        if line[4] is not None and line[1] in replaces:
            return line
    return None


def after_text(lines, edit):
    """The lines after the write of a text."""
    _, edit_id, _, content, _, replaces = edit
    continued = first_replaced(lines, replaces)
    if continued is None:
        lines = with_new_line(lines, edit)
    else:
        line_id, _, inside, below, _ = continued
        row = (line_id, edit_id, inside, below, content)
        lines = [row if known[0] == line_id else known for known in lines]
    return without_heads(lines, [head for head in replaces if head != edit_id])


def after_move(lines, edit):
    """The lines after a move."""
    for head, line_id, place in edit[2]:
        lines = move_line(lines, head, line_id, place)
    return lines


def lines_after(lines, edit):
    """A new list, the lines after the edit."""
    lines = list(lines)
    if edit[0] == "drop":
        return without_heads(lines, edit[2])
    if edit[0] == "move":
        return after_move(lines, edit)
    if edit[3] is None:
        return without_heads(with_new_line(lines, edit), edit[5])
    return after_text(lines, edit)


def fold_lines(lines, edits):
    """A new list, the lines after all these edits, in order."""
    lines = list(lines)
    for edit in edits:
        lines = lines_after(lines, edit)
    return lines


def lines_of(edits):
    """The lines that sound edits make from an empty list."""
    return fold_lines([], edits)
