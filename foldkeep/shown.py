"""What a host shows of lines: entries (path, names, content, ids, line)."""

from foldkeep.copies import copy_name
from foldkeep.names import fits, folded


class Spot:
    """What stands at one path of the lines: perhaps a folder, and files with different contents."""

    def __init__(self):
        # The least line id of what makes a folder of it; None as long as there is no folder here.
        self.order = None
        self.folder_lines = []
        # The lines of the files, by content.
        self.files = {}
        # The spots in the folder, by own name.
        self.inside = {}


def make_folder_of(spot, line_id):
    """Notes that this line is a folder line of the spot or stands below it."""
    if spot.order is None or line_id < spot.order:
        spot.order = line_id


def add_line(root, path, line):
    """Adds a line that stands at the path."""
    spot = root
    for name in path:
        make_folder_of(spot, line[0])
        spot = spot.inside.setdefault(name, Spot())
    if line[4] is None:
        make_folder_of(spot, line[0])
        spot.folder_lines.append(line)
    else:
        spot.files.setdefault(line[4], []).append(line)


def spots_of(lines):
    """The spot of the root, and in it the spots of all lines."""
    known = {line[0]: line for line in lines}
    root = Spot()
    for line in lines:
        _, _, inside, path, _ = line
        while inside is not None:
            _, _, inside, below, _ = known[inside]
            path = below + path
        add_line(root, path, line)
    return root


def item_of(own, order, content, lines, spot):
    """Something that needs a name: (order, own, content, ids, line, spot); the spot is None for a file."""
    ids = tuple(sorted([line[1] for line in lines]))
    line_id = min([line[0] for line in lines], default=None)
    return (order, own, content, ids, line_id, spot)


def items_at(own, spot):
    """What stands at a spot: first the one that is not a copy, then the copies."""
    items = []
    for content, lines in spot.files.items():
        items.append(item_of(own, min([line[0] for line in lines]), content, lines, None))
    items = sorted(items, key=lambda item: item[0])
    if spot.order is not None:
        items.insert(0, item_of(own, spot.order, None, spot.folder_lines, spot))
    return items


def name_of_copy(rule, given, item):
    """The first name of a copy that fits and is not given yet."""
    k = 0
    name = copy_name(rule.longest, item[1], item[0], k)
    while not fits(rule, name) or folded(rule, name) in given:
        k += 1
        name = copy_name(rule.longest, item[1], item[0], k)
    return name


def named_items(rule, taken_names, firsts, copies):
    """The pairs (name, item) of a folder, in the order in which the names are given."""
    given = {folded(rule, name): True for name in taken_names}
    pairs = []
    left = []
    for item in sorted(firsts, key=lambda item: item[0]):
        own = item[1]
        if fits(rule, own) and folded(rule, own) not in given:
            given[folded(rule, own)] = True
            pairs.append((own, item))
        else:
            left.append(item)
    left.extend(sorted(copies, key=lambda item: item[0]))
    for item in left:
        name = name_of_copy(rule, given, item)
        given[folded(rule, name)] = True
        pairs.append((name, item))
    return pairs


def shown_in(rule, taken_names, path, names, folder):
    """The entries in a folder, each with its spot, or with None if it is a file."""
    firsts = []
    copies = []
    for own, spot in folder.inside.items():
        items = items_at(own, spot)
        firsts.append(items[0])
        copies.extend(items[1:])
    shown = []
    for name, item in named_items(rule, taken_names, firsts, copies):
        _, own, content, ids, line_id, spot = item
        shown.append(((path + (name,), names + (own,), content, ids, line_id), spot))
    return shown


def taken_by_folder(taken):
    """The names that are taken, by the path of their folder."""
    names = {}
    for path in taken:
        if path != ():
            names.setdefault(path[:-1], []).append(path[-1])
    return names


def shown_tree(rule, taken, lines):
    """The list of what is shown of the lines."""
    taken_names = taken_by_folder(taken)
    tree = []
    waiting = shown_in(rule, taken_names.get((), []), (), (), spots_of(lines))[::-1]
    while waiting:
        entry, spot = waiting.pop()
        tree.append(entry)
        if spot is not None:
            path, names, _, _, _ = entry
            # What waits is taken from the end, so what stands in the folder comes before what stands beside it.
            waiting.extend(shown_in(rule, taken_names.get(path, []), path, names, spot)[::-1])
    return tree


def shown_at(tree, path, content):
    """The first entry of the list with this path and this content, or None."""
    for entry in tree:
        if entry[0] == path and entry[2] == content:
            return entry
    return None
