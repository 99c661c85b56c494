"""What a keeper keeps, and how its lists are searched."""

from foldkeep.knowing import Knowledge


class KeeperState:
    """All that a keeper keeps."""

    def __init__(self, me, devices, rule, ignores, *, know=None, heard=(), placed=(), had=(), taken=(), shelf=(),
                 next_place=0, pending=None, late=(), requests=(), pieces=(), away=(), holding=(), asking=(),
                 fetching=(), drops=(), next_number=0, stage=("idle",)):
        self.me = me
        self.devices = list(devices)
        self.rule = rule
        self.ignores = tuple(ignores)
        self.know = Knowledge(devices) if know is None else know
        self.heard = list(heard)
        self.placed = list(placed)
        self.had = list(had)
        self.taken = list(taken)
        self.shelf = list(shelf)
        self.next_place = next_place
        self.pending = pending
        self.late = list(late)
        self.requests = list(requests)
        self.pieces = list(pieces)
        self.away = list(away)
        self.holding = list(holding)
        self.asking = list(asking)
        self.fetching = list(fetching)
        self.drops = list(drops)
        self.next_number = next_number
        self.stage = stage
        self.scan = None


class Placed:
    """What a keeper believes to stand in its folder."""

    def __init__(self, path, names, thing, count, cuts, content, ids, line, seen):
        self.path = path
        self.names = names
        self.thing = thing
        self.count = count
        self.cuts = cuts
        self.content = content
        self.ids = ids
        self.line = line
        self.seen = seen


class Shelved:
    """What a keeper believes to lie on its shelf, and what it is for."""

    def __init__(self, place, thing, count, cuts, length, purpose):
        self.place = place
        self.thing = thing
        self.count = count
        self.cuts = cuts
        self.length = length
        self.purpose = purpose


def placed_row(entry):
    """The attributes of a placed entry, as a tuple."""
    return (
        entry.path, entry.names, entry.thing, entry.count, entry.cuts, entry.content, entry.ids, entry.line, entry.seen,
    )


def shelved_row(entry):
    """The attributes of an entry of the shelf, as a tuple; what was expected is told as a tuple, too."""
    purpose = entry.purpose
    if holds_placed(purpose):
        purpose = (purpose[0], placed_row(purpose[1])) + purpose[2:]
    return (entry.place, entry.thing, entry.count, entry.cuts, entry.length, purpose)


def holds_placed(purpose):
    """True if the purpose of an entry of the shelf holds a placed entry: what was expected."""
    return purpose[0] != "coming"


def placed_copy(entry):
    """An equal placed entry."""
    return with_heads(entry, entry.ids, entry.line)


def shelved_copy(entry):
    """An equal entry of the shelf, with a placed entry of its own within its purpose."""
    purpose = entry.purpose
    if holds_placed(purpose):
        purpose = (purpose[0], placed_copy(purpose[1])) + purpose[2:]
    return Shelved(entry.place, entry.thing, entry.count, entry.cuts, entry.length, purpose)


def with_heads(entry, ids, line):
    """The placed entry, standing for these heads, with this line."""
    return Placed(
        entry.path, entry.names, entry.thing, entry.count, entry.cuts, entry.content, ids, line, entry.seen,
    )


def placed_at(placed, path):
    """The first entry at the path, or None."""
    for entry in placed:
        if entry.path == path:
            return entry
    return None


def file_at(placed, path):
    """The first file at the path, or None."""
    for entry in placed:
        if entry.path == path and entry.content is not None:
            return entry
    return None


def folder_at(placed, path):
    """The first folder at the path, or None."""
    for entry in placed:
        if entry.path == path and entry.content is None:
            return entry
    return None


def had_at(had, path):
    """The heads that programs have had at the path."""
    for known, ids in had:
        if known == path:
            return ids
    return ()


def with_had(had, path, ids):
    """The list of what programs have had, with these heads at the path."""
    others = [pair for pair in had if pair[0] != path]
    if ids == ():
        return others
    return [*others, (path, ids)]


def shelved_at(shelf, place):
    """The first entry of the shelf at the place, or None."""
    for entry in shelf:
        if entry.place == place:
            return entry
    return None


def shelf_index(shelf, place):
    """The index of the first entry of the shelf at the place, or None."""
    for at, entry in enumerate(shelf):
        if entry.place == place:
            return at
    return None


def state_copy(state):
    """An equal state that shares nothing that can change, except a scan."""
    copy = KeeperState(
        state.me, state.devices, state.rule, state.ignores, know=state.know.copy_of(), heard=state.heard,
        placed=[placed_copy(entry) for entry in state.placed], had=state.had, taken=state.taken,
        shelf=[shelved_copy(entry) for entry in state.shelf], next_place=state.next_place,
        pending=state.pending, late=state.late, requests=state.requests, pieces=state.pieces, away=state.away,
        holding=state.holding, asking=state.asking, fetching=state.fetching, drops=state.drops,
        next_number=state.next_number, stage=state.stage,
    )
    copy.scan = state.scan
    return copy
