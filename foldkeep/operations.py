"""What a keeper asks of a host. An operation that is refused changes nothing."""

from foldkeep.things import (
    end_thing, folder_at, is_empty, is_free, lift, new_thing, put, put_at, remove_thing, thing_at,
)

REFUSED = ("refused",)
DONE = ("done",)


def told_cuts(host, thing):
    """The cuts of a thing, as far as the host tells them."""
    if host.rule.cuts:
        return thing.cuts
    return 0


def on_shelf(host, place):
    """The thing that lies at the place, or None."""
    if place not in host.lying:
        return None
    return host.things[host.lying[place]]


def text_answer(host, thing):
    """The answer that tells the text of a file; refused for anything else and for None."""
    if thing is None or thing.kind != "file":
        return REFUSED
    return ("text", thing.number, thing.count, told_cuts(host, thing), thing.text, thing.runs)


def names(host, operation):
    """Tells what stands directly in a folder."""
    base = folder_at(host, "folder", operation[1])
    if base is None:
        return REFUSED
    rows = []
    for number in host.folders[base].values():
        thing = host.things[number]
        rows.append((thing.name, number, thing.kind, thing.count, told_cuts(host, thing)))
    return ("names", sorted(rows, key=lambda row: row[0]))


def total(host, _):
    """Tells how often names were changed, if the host tells it."""
    if host.rule.turns:
        return ("total", host.turned)
    return ("total", None)


def read(host, operation):
    """Tells the text of a file in the folder."""
    return text_answer(host, thing_at(host, "folder", operation[1]))


def read_shelf(host, operation):
    """Tells the text of a file on the shelf."""
    return text_answer(host, on_shelf(host, operation[1]))


def was_read(host, operation):
    """Tells whether programs have read a file while it had a count, if the host tells it."""
    _, number, count = operation
    if host.rule.reads:
        return ("was_read", (number, count) in host.have_read)
    return ("was_read", None)


def shelf(host, _):
    """Tells what lies on the shelf."""
    rows = []
    for place in sorted(host.lying):
        thing = on_shelf(host, place)
        rows.append((place, thing.number, thing.kind, thing.count, told_cuts(host, thing), len(thing.text)))
    return ("shelf", rows)


def stage(host, operation):
    """Lays a new file on the shelf, or adds a text to one that was laid there so."""
    _, place, text, runs = operation
    thing = on_shelf(host, place)
    if thing is None:
        thing = new_thing(host, "file", text, runs)
        thing.staged = True
        host.lying[place] = thing.number
        return DONE
    if not thing.staged:
        return REFUSED
    thing.text = thing.text + text
    thing.runs = runs
    thing.count += 1
    return DONE


def take(host, operation):
    """Takes a thing from the folder to the shelf."""
    _, path, place = operation
    thing = thing_at(host, "folder", path)
    if thing is None or place in host.lying:
        return REFUSED
    lift(host, thing)
    host.lying[place] = thing.number
    host.turned += 1
    return DONE


def give(host, operation):
    """Gives a thing from the shelf to the folder."""
    _, place, path = operation
    thing = on_shelf(host, place)
    if thing is None or not is_free(host, "folder", path):
        return REFUSED
    del host.lying[place]
    thing.staged = False
    put_at(host, thing, "folder", path)
    host.turned += 1
    return DONE


def swap(host, operation):
    """Exchanges a thing on the shelf and one in the folder."""
    _, place, path = operation
    lying = on_shelf(host, place)
    thing = thing_at(host, "folder", path)
    if not host.rule.swaps or lying is None or thing is None:
        return REFUSED
    base = thing.base
    name = thing.name
    lift(host, thing)
    lying.staged = False
    put(host, lying, base, name)
    host.lying[place] = thing.number
    host.turned += 1
    return DONE


def make_folder(host, operation):
    """Creates a folder."""
    path = operation[1]
    if not is_free(host, "folder", path):
        return REFUSED
    put_at(host, new_thing(host, "folder", "", False), "folder", path)
    return DONE


def remove_folder(host, operation):
    """Removes an empty folder."""
    thing = thing_at(host, "folder", operation[1])
    if thing is None or not is_empty(host, thing):
        return REFUSED
    remove_thing(host, thing)
    return DONE


def drop(host, operation):
    """Removes a file from the shelf."""
    _, place, count = operation
    thing = on_shelf(host, place)
    if thing is None or thing.kind != "file" or thing.count != count or thing.number in host.opened:
        return REFUSED
    del host.lying[place]
    end_thing(host, thing)
    return DONE


OPERATIONS = {
    "names": names,
    "total": total,
    "read": read,
    "read_shelf": read_shelf,
    "was_read": was_read,
    "shelf": shelf,
    "stage": stage,
    "take": take,
    "give": give,
    "swap": swap,
    "make_folder": make_folder,
    "remove_folder": remove_folder,
    "drop": drop,
}


def answer_of(host, operation):
    """Does an operation and returns its answer."""
    action = OPERATIONS[operation[0]]
    return action(host, operation)
