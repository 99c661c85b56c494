"""How the things that a keeper keeps are written as integers, one after another, and read back."""

from foldkeep.errors import NoKeeper
from foldkeep.reading import (
    SIGNS, content_in, edit_id_in, edit_ids_in, flag_in, mark_in, maybe_id_in, path_in, sign_in, size_in, text_in,
)
from foldkeep.state import Placed, Shelved

EDITS = ("write", "drop", "move")
PURPOSES = ("coming", "kept", "found", "back")
OPERATIONS = (
    "names", "total", "read", "read_shelf", "was_read", "shelf", "stage", "take", "give", "swap", "make_folder",
    "remove_folder", "drop",
)
# What the parts of each operation are.
PARTS = {
    "names": ("path",),
    "total": (),
    "read": ("path",),
    "read_shelf": ("number",),
    "was_read": ("number", "number"),
    "shelf": (),
    "stage": ("number", "text", "flag"),
    "take": ("path", "number"),
    "give": ("number", "path"),
    "swap": ("number", "path"),
    "make_folder": ("path",),
    "remove_folder": ("path",),
    "drop": ("number", "number"),
}


class Reader:
    """Reads things from a list of integers, from its first one on. What cannot be read whole is not read at all."""

    def __init__(self, numbers):
        # A slice is new, as a list that is passed in must not be kept.
        self.numbers = numbers[:]
        self.passed = 0
        self.signs = {ord(sign): sign for sign in SIGNS}

    def whole(self, action):
        """What the action reads."""
        start = self.passed
        try:
            return action(self)
        except NoKeeper:
            self.passed = start
            raise

    def number(self):
        """An integer."""
        if self.at_end() or self.numbers[self.passed] < 0:
            raise NoKeeper("an integer is missing or wrong")
        self.passed += 1
        return self.numbers[self.passed - 1]

    def flag(self):
        """True or False."""
        return self.whole(flag_in)

    def sign(self):
        """A character, from its code point."""
        return self.whole(sign_in)

    def size(self):
        """The length of a list."""
        return self.whole(size_in)

    def text(self):
        """A string."""
        return self.whole(text_in)

    def path(self):
        """A path."""
        return self.whole(path_in)

    def edit_id(self):
        """An id."""
        return self.whole(edit_id_in)

    def edit_ids(self):
        """A list of ids, as a tuple."""
        return self.whole(edit_ids_in)

    def maybe_id(self):
        """An id, or None."""
        return self.whole(maybe_id_in)

    def mark(self):
        """A mark."""
        return self.whole(mark_in)

    def content(self):
        """A content: a mark, or None."""
        return self.whole(content_in)

    def at_end(self):
        """True if no integer is left."""
        return self.passed >= len(self.numbers)


def pack_flag(flag):
    """The integers of True or False."""
    if flag:
        return [1]
    return [0]


def pack_all(packed):
    """The integers of a list whose elements have these lists of integers."""
    numbers = [len(packed)]
    for part in packed:
        numbers.extend(part)
    return numbers


def pack_text(text):
    """The integers of a string."""
    return [len(text)] + [ord(sign) for sign in text]


def pack_path(path):
    """The integers of a path."""
    return pack_all([pack_text(name) for name in path])


def pack_ids(ids):
    """The integers of a list of ids."""
    return pack_all([list(edit_id) for edit_id in ids])


def pack_maybe_id(edit_id):
    """The integers of an id that may be None."""
    if edit_id is None:
        return [0]
    return [1, *edit_id]


def pack_mark(mark):
    """The integers of a mark."""
    length, low_sum, high_sum, runs = mark
    return [length, low_sum, high_sum] + pack_flag(runs)


def pack_content(content):
    """The integers of a content, a mark that may be None."""
    if content is None:
        return [0]
    return [1] + pack_mark(content)


def pack_place(place):
    """The integers of a place."""
    inside, below, seen = place
    return pack_maybe_id(inside) + pack_path(below) + pack_path(seen)


def read_place(reader):
    """Reads a place."""
    inside = reader.maybe_id()
    below = reader.path()
    return (inside, below, reader.path())


def read_kind(reader, kinds):
    """Reads which one of these kinds it is."""
    code = reader.number()
    if code >= len(kinds):
        raise NoKeeper("there is no such kind")
    return kinds[code]


def pack_edit(edit):
    """The integers of an edit."""
    kind = edit[0]
    numbers = list(edit[1]) + [EDITS.index(kind)]
    if kind == "write":
        _, _, place, content, line, replaces = edit
        return numbers + pack_place(place) + pack_content(content) + pack_maybe_id(line) + pack_ids(replaces)
    if kind == "drop":
        return numbers + pack_ids(edit[2])
    return numbers + pack_all([[*head, *line] + pack_place(place) for head, line, place in edit[2]])


def read_edit(reader):
    """Reads an edit."""
    return reader.whole(edit_in)


def edit_in(reader):
    """The next edit."""
    edit_id = reader.edit_id()
    kind = read_kind(reader, EDITS)
    if kind == "write":
        place = read_place(reader)
        content = reader.content()
        line = reader.maybe_id()
        return (kind, edit_id, place, content, line, reader.edit_ids())
    if kind == "drop":
        return (kind, edit_id, reader.edit_ids())
    return (kind, edit_id, tuple([read_moved(reader) for _ in range(reader.size())]))


def read_moved(reader):
    """Reads an entry of a move."""
    head = reader.edit_id()
    line = reader.edit_id()
    return (head, line, read_place(reader))


def pack_line(line):
    """The integers of a line."""
    line_id, head, inside, below, content = line
    return [*line_id, *head] + pack_maybe_id(inside) + pack_path(below) + pack_content(content)


def read_line(reader):
    """Reads a line."""
    return reader.whole(line_in)


def line_in(reader):
    """The next line."""
    line_id = reader.edit_id()
    head = reader.edit_id()
    inside = reader.maybe_id()
    below = reader.path()
    return (line_id, head, inside, below, reader.content())


def pack_placed(item):
    """The integers of a placed entry."""
    numbers = pack_path(item.path) + pack_path(item.names) + [item.thing, item.count, item.cuts]
    numbers.extend(pack_content(item.content) + pack_ids(item.ids) + pack_maybe_id(item.line))
    return numbers + pack_flag(item.seen)


def read_placed(reader):
    """Reads a placed entry."""
    return reader.whole(placed_in)


def placed_in(reader):
    """The next placed entry."""
    path = reader.path()
    names = reader.path()
    thing = reader.number()
    count = reader.number()
    cuts = reader.number()
    content = reader.content()
    ids = reader.edit_ids()
    line = reader.maybe_id()
    return Placed(path, names, thing, count, cuts, content, ids, line, reader.flag())


def pack_shelved(entry):
    """The integers of an entry of the shelf."""
    purpose = entry.purpose
    kind = purpose[0]
    numbers = [entry.place, entry.thing, entry.count, entry.cuts, entry.length, PURPOSES.index(kind)]
    if kind == "coming":
        return numbers + list(purpose[1]) + pack_mark(purpose[2])
    numbers.extend(pack_placed(purpose[1]))
    if kind == "back":
        numbers.extend(pack_path(purpose[2]) + [purpose[3]])
    return numbers


def read_shelved(reader):
    """Reads an entry of the shelf."""
    return reader.whole(shelved_in)


def shelved_in(reader):
    """The next entry of the shelf."""
    place = reader.number()
    thing = reader.number()
    count = reader.number()
    cuts = reader.number()
    length = reader.number()
    return Shelved(place, thing, count, cuts, length, read_purpose(reader))


def read_purpose(reader):
    """Reads the purpose of an entry of the shelf."""
    kind = read_kind(reader, PURPOSES)
    if kind == "coming":
        head = reader.edit_id()
        return (kind, head, reader.mark())
    was = read_placed(reader)
    if kind == "back":
        path = reader.path()
        return (kind, was, path, reader.number())
    return (kind, was)


def pack_operation(operation):
    """The integers of an operation."""
    kind = operation[0]
    numbers = [OPERATIONS.index(kind)]
    for form, part in zip(PARTS[kind], operation[1:]):
        numbers.extend(pack_part(form, part))
    return numbers


def pack_part(form, part):
    """The integers of a part of an operation."""
    if form == "path":
        return pack_path(part)
    if form == "text":
        return pack_text(part)
    if form == "flag":
        return pack_flag(part)
    return [part]


def read_operation(reader):
    """Reads an operation."""
    return reader.whole(operation_in)


def operation_in(reader):
    """The next operation."""
    kind = read_kind(reader, OPERATIONS)
    parts = [read_part(reader, form) for form in PARTS[kind]]
    return (kind, *parts)


def read_part(reader, form):
    """Reads a part of an operation."""
    if form == "path":
        return reader.path()
    if form == "text":
        return reader.text()
    if form == "flag":
        return reader.flag()
    return reader.number()
