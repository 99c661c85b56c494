"""What a scan found, beside what was placed before: by path, and by thing where nothing of its kind was placed."""

from foldkeep.state import file_at, folder_at


def kind_of(entry):
    """The kind of a placed entry."""
    if entry.content is None:
        return "folder"
    return "file"


def placed_as(placed, path, kind):
    """The first entry of this kind at the path, or None."""
    if kind == "folder":
        return folder_at(placed, path)
    return file_at(placed, path)


class Finds:
    """What a scan found, by kind, in dicts that only have True as values."""

    def __init__(self, scan, placed):
        self.at_rest = scan.at_rest
        self.paths = {"file": {}, "folder": {}}
        # The things that were found at a path at which nothing of their kind was placed.
        self.elsewhere = {"file": {}, "folder": {}}
        # Those of them that are files and have a mark there.
        self.marked = {}
        for found in scan.found:
            add_found(self, placed, found)


def add_found(finds, placed, found):
    """Adds something that was found."""
    finds.paths[found.kind][found.path] = True
    if placed_as(placed, found.path, found.kind) is None:
        finds.elsewhere[found.kind][found.thing] = True
        if found.mark is not None:
            finds.marked[found.thing] = True


def is_at_path(finds, entry):
    """True if something of its kind was found at the entry's path."""
    return entry.path in finds.paths[kind_of(entry)]


def is_elsewhere(finds, entry):
    """True if the names were at rest and the entry's thing was found where nothing of its kind was placed."""
    return finds.at_rest and entry.thing in finds.elsewhere[kind_of(entry)]


def is_found(finds, entry):
    """True if the entry was found; a folder elsewhere counts only if it stands for a head."""
    if is_at_path(finds, entry):
        return True
    if entry.content is None and entry.ids == ():
        return False
    return is_elsewhere(finds, entry)


def is_missing(finds, entry):
    """True if the entry is missing, whatever it stands for."""
    return not is_at_path(finds, entry) and not is_elsewhere(finds, entry)


def is_waiting(finds, entry):
    """True if the entry is a file that was found elsewhere, but nowhere with a mark."""
    if entry.content is None or is_at_path(finds, entry):
        return False
    return is_elsewhere(finds, entry) and entry.thing not in finds.marked
