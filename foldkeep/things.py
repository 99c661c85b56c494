"""The things on a host: where they stand, and how they come, go and are told.

The functions work on a Host. What a folder holds is kept under its base: "folder", "outside", or the number of the
folder; each name is kept there as what it counts as, so that names that are alike are one.
"""

from foldkeep.names import fits, folded


class Thing:
    """A file, a folder, or something other."""

    def __init__(self, number, kind, text, runs):
        self.number = number
        self.kind = kind
        self.text = text
        self.runs = runs
        self.count = 0
        self.cuts = 0
        # The base of the folder in which it stands, None on the shelf; and its name in a folder, as it is spelled.
        self.base = None
        self.name = ""
        self.staged = False


def thing_copy(thing):
    """An equal thing."""
    copy = Thing(thing.number, thing.kind, thing.text, thing.runs)
    copy.count = thing.count
    copy.cuts = thing.cuts
    copy.base = thing.base
    copy.name = thing.name
    copy.staged = thing.staged
    return copy


def folder_at(host, base, path):
    """The base of the folder at a path, or None; the path () is the base itself."""
    for name in path:
        base = host.folders[base].get(folded(host.rule, name))
        if base not in host.folders:
            return None
    return base


def thing_at(host, base, path):
    """The thing at a path, or None; nothing stands at the path ()."""
    if path == ():
        return None
    above = folder_at(host, base, path[:-1])
    if above is None:
        return None
    number = host.folders[above].get(folded(host.rule, path[-1]))
    if number is None:
        return None
    return host.things[number]


def is_free(host, base, path):
    """True if something can be put at the path."""
    if path == () or not fits(host.rule, path[-1]):
        return False
    return folder_at(host, base, path[:-1]) is not None and thing_at(host, base, path) is None


def is_empty(host, thing):
    """True if the thing is a folder in which nothing stands."""
    return thing.kind == "folder" and len(host.folders[thing.number]) == 0


def new_thing(host, kind, text, runs):
    """A new thing that does not stand anywhere yet."""
    host.last_number += 1
    host.turned += 1
    thing = Thing(host.last_number, kind, text, runs)
    host.things[thing.number] = thing
    if kind == "folder":
        host.folders[thing.number] = {}
    return thing


def put(host, thing, base, name):
    """Lets the thing stand in the folder with this base, under this name."""
    host.folders[base][folded(host.rule, name)] = thing.number
    thing.base = base
    thing.name = name


def put_at(host, thing, base, path):
    """Lets the thing stand at a free path."""
    put(host, thing, folder_at(host, base, path[:-1]), path[-1])


def lift(host, thing):
    """Takes the thing out of the folder in which it stands."""
    del host.folders[thing.base][folded(host.rule, thing.name)]
    thing.base = None


def end_thing(host, thing):
    """Ends a thing that stands in no folder any more and does not lie on the shelf."""
    host.turned += 1
    del host.things[thing.number]
    if thing.kind == "folder":
        del host.folders[thing.number]


def remove_thing(host, thing):
    """Ends a thing that stands in a folder."""
    lift(host, thing)
    end_thing(host, thing)


def thing_row(thing, path):
    """The thing as it is told to those who look at the whole host."""
    return (path, thing.kind, thing.number, thing.count, thing.cuts, thing.text, thing.runs)


def rows_below(host, base):
    """The rows of all that stands below the base, ordered by path."""
    rows = []
    waiting = [(base, ())]
    while waiting:
        above, path = waiting.pop()
        for number in host.folders[above].values():
            thing = host.things[number]
            rows.append(thing_row(thing, path + (thing.name,)))
            if thing.kind == "folder":
                waiting.append((number, path + (thing.name,)))
    return sorted(rows, key=lambda row: row[0])


def rows_of(host, thing):
    """The rows of the thing, at the path (), and of all that stands in it."""
    rows = [thing_row(thing, ())]
    if thing.kind == "folder":
        rows.extend(rows_below(host, thing.number))
    return rows
