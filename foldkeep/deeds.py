"""What programs do on a host. A deed that cannot be done raises NotPossible and changes nothing."""

from foldkeep.errors import NotPossible
from foldkeep.names import fits
from foldkeep.things import folder_at, is_empty, is_free, lift, new_thing, put, put_at, remove_thing, thing_at


def base_of(host, spot):
    """The base of a spot, if paths can start there."""
    base = spot[0]
    if base == "folder" or base == "outside":
        return base
    if base not in host.opened or base not in host.folders:
        raise NotPossible("the base is not a folder that is open and still exists")
    return base


def free_base(host, spot):
    """The base of a spot whose path is free."""
    base = base_of(host, spot)
    if not is_free(host, base, spot[1]):
        raise NotPossible("the path is not free")
    return base


def standing(host, spot):
    """What stands at the spot."""
    thing = thing_at(host, base_of(host, spot), spot[1])
    if thing is None:
        raise NotPossible("nothing stands at the path")
    return thing


def file_of(host, target):
    """The file that a target means."""
    if isinstance(target, tuple):
        thing = standing(host, target)
    elif target in host.opened and target in host.things:
        thing = host.things[target]
    else:
        raise NotPossible("the number is not one of something that is open and still exists")
    if thing.kind != "file":
        raise NotPossible("the target is not a file")
    return thing


def make_thing(host, spot, kind, text, runs):
    """Creates a thing at a free path."""
    base = free_base(host, spot)
    put_at(host, new_thing(host, kind, text, runs), base, spot[1])


def make(host, deed):
    """Creates a file."""
    _, spot, text, runs = deed
    make_thing(host, spot, "file", text, runs)


def make_folder(host, deed):
    """Creates a folder."""
    make_thing(host, deed[1], "folder", "", False)


def make_other(host, deed):
    """Creates something other."""
    make_thing(host, deed[1], "other", "", False)


def remove(host, deed):
    """Removes what is not a folder."""
    thing = standing(host, deed[1])
    if thing.kind == "folder":
        raise NotPossible("a folder stands at the path")
    remove_thing(host, thing)


def remove_folder(host, deed):
    """Removes an empty folder."""
    thing = standing(host, deed[1])
    if not is_empty(host, thing):
        raise NotPossible("what stands at the path is not an empty folder")
    remove_thing(host, thing)


def rename(host, deed):
    """Renames what stands at a spot, with everything in it."""
    _, spot, goal = deed
    thing = standing(host, spot)
    other = thing_at(host, base_of(host, goal), goal[1])
    if other is None:
        rename_to_free(host, thing, goal)
    elif other.number == thing.number:
        spell_anew(host, thing, goal[1][-1])
    else:
        rename_over(host, thing, other)


def rename_to_free(host, thing, goal):
    """Lets the thing stand at a goal at which nothing stands."""
    base = free_base(host, goal)
    if lies_in(host, folder_at(host, base, goal[1][:-1]), thing):
        raise NotPossible("the goal lies in the thing itself")
    lift(host, thing)
    put_at(host, thing, base, goal[1])
    host.turned += 1


def lies_in(host, base, thing):
    """True if the folder with this base is the thing or stands in it at any depth."""
    while base in host.things:
        if base == thing.number:
            return True
        base = host.things[base].base
    return False


def spell_anew(host, thing, name):
    """Gives the thing a name that is alike to its own, in the folder where it is."""
    if not fits(host.rule, name):
        raise NotPossible("the name does not fit")
    put(host, thing, thing.base, name)
    host.turned += 1


def rename_over(host, thing, other):
    """Lets the thing stand where another thing stood, which is removed."""
    if thing.kind == "folder" or other.kind == "folder":
        raise NotPossible("a folder is renamed over something, or something over a folder")
    base = other.base
    name = other.name
    remove_thing(host, other)
    lift(host, thing)
    put(host, thing, base, name)
    host.turned += 1


def cut(host, deed):
    """Empties a file."""
    thing = file_of(host, deed[1])
    thing.text = ""
    thing.cuts += 1
    thing.count += 1


def write(host, deed):
    """Writes a text into a file."""
    _, target, at, text = deed
    thing = file_of(host, target)
    if at > len(thing.text):
        raise NotPossible("the index is beyond the end of the text")
    thing.text = thing.text[:at] + text + thing.text[at + len(text):]
    thing.count += 1


def set_runs(host, deed):
    """Lets a file run or not."""
    _, target, runs = deed
    thing = file_of(host, target)
    thing.runs = runs
    thing.count += 1


def read(host, deed):
    """Counts a file as read."""
    thing = file_of(host, deed[1])
    host.have_read[(thing.number, thing.count)] = True


def start_use(host, deed):
    """Opens what stands at a spot once more."""
    host.opened.insert(0, standing(host, deed[1]).number)


def end_use(host, deed):
    """Closes a thing once."""
    if deed[1] not in host.opened:
        raise NotPossible("the thing is not open")
    host.opened.remove(deed[1])


DEEDS = {
    "make": make,
    "make_folder": make_folder,
    "make_other": make_other,
    "remove": remove,
    "remove_folder": remove_folder,
    "rename": rename,
    "cut": cut,
    "write": write,
    "set_runs": set_runs,
    "read": read,
    "open": start_use,
    "close": end_use,
}


def do_deed(host, deed):
    """Does a deed of a program."""
    action = DEEDS[deed[0]]
    action(host, deed)
