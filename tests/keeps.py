"""What the tests of keepers share: short ways to make lines, entries and states, and to run scans."""

from foldkeep.ending import end_scan
from foldkeep.keeper import Keeper
from foldkeep.knowing import Knowledge
from foldkeep.marks import mark_of
from foldkeep.names import Rule
from foldkeep.scanning import Found, Scan, answer_to_scan, scan_question
from foldkeep.state import KeeperState, Placed, Shelved, placed_row, shelved_row

LISTS = (
    "devices", "heard", "placed", "had", "taken", "shelf", "late", "requests", "pieces", "away", "holding", "asking",
    "fetching", "drops",
)


def mark(text, runs=False):
    """The mark of a text."""
    return mark_of(text, runs)


def a_line(line_id, *below, text=None, head=None, inside=None):
    """A line; without a text it is a folder line."""
    return (line_id, line_id if head is None else head, inside, below, None if text is None else mark(text))


def a_folder(*path, thing=1, ids=(), line=None, seen=True, names=None, count=0, cuts=0):
    """A folder that is placed."""
    return Placed(path, path if names is None else names, thing, count, cuts, None, ids, line, seen)


def a_file(*path, thing=1, count=0, cuts=0, text="", ids=(), line=None, seen=True, names=None):
    """A file that is placed."""
    return Placed(path, path if names is None else names, thing, count, cuts, mark(text), ids, line, seen)


def found_folder(*path, thing=1):
    """A folder that a scan found."""
    return Found(path, thing, "folder", 0, 0, None)


def found_file(*path, thing=1, count=0, cuts=0, text=None):
    """A file that a scan found; without a text it has no mark."""
    return Found(path, thing, "file", count, cuts, None if text is None else mark(text))


def coming(place, head, text, *, thing=0, count=0, length=0, cuts=0):
    """An entry of the shelf at which a text comes in."""
    return Shelved(place, thing, count, cuts, length, ("coming", head, mark(text)))


def kept(place, was, *, thing=None, count=None, cuts=0, length=0):
    """An entry of the shelf that is kept; it lies there with the thing and the count of `was` if none are named."""
    return Shelved(
        place, was.thing if thing is None else thing, was.count if count is None else count, cuts, length,
        ("kept", was))


def found_there(place, was, *, thing=1, count=0, cuts=0, length=0):
    """An entry of the shelf that was found where something else was expected."""
    return Shelved(place, thing, count, cuts, length, ("found", was))


def going_back(place, was, *, path=None, tries=0, thing=1, count=0, cuts=0, length=0):
    """An entry of the shelf that goes back to a path, the one of `was` if none is named."""
    return Shelved(
        place, thing, count, cuts, length, ("back", was, was.path if path is None else path, tries))


def lies(place, thing, *, kind="file", count=0, cuts=0, length=0):
    """A row of what a host tells of its shelf."""
    return (place, thing, kind, count, cuts, length)


def shelf_rows(shelf):
    """The rows of entries of the shelf, whose purposes must hold placed entries."""
    for entry in shelf:
        if entry.purpose[0] != "coming":
            assert isinstance(entry.purpose[1], Placed), entry.purpose
    return [shelved_row(entry) for entry in shelf]


def knowing(lines, devices=(0, 1, 2), clock=None):
    """Knowledge of just these lines, all of them in the base."""
    ids = [part for line in lines for part in line[:2]]
    if clock is None:
        clock = max([edit_id[0] for edit_id in ids], default=0)
    return Knowledge(
        list(devices), clock=clock, base=lines, upto=clock, knows=[(device, clock) for device in devices])


def a_state(lines=(), *, rule=None, ignores=(), clock=None, **more):
    """The state of device 0, which knows these lines."""
    return KeeperState(
        0, [0, 1, 2], Rule() if rule is None else rule, ignores, know=knowing(list(lines), clock=clock), **more)


def a_keeper(lines=(), **more):
    """The keeper of device 0 with such a state."""
    keeper = Keeper(0, [0, 1, 2], Rule())
    keeper.state = a_state(lines, **more)
    return keeper


def a_scan(*found, heads=None, at_rest=True, taken=(), have_read=()):
    """A scan that has nothing left to be asked."""
    scan = Scan(list(heads or []))
    scan.phase = "end"
    scan.at_rest = at_rest
    scan.found = list(found)
    scan.taken = list(taken)
    scan.have_read = list(have_read)
    return scan


def ended(state, *found, **more):
    """Ends a scan that found this, and returns the edits that it made."""
    before = list(state.know.rest)
    end_scan(state, a_scan(*found, **more))
    return state.know.rest[len(before):]


def heads_of(state):
    """The heads of all known lines."""
    return [line[1] for line in state.know.lines()]


def scan_of(state):
    """A scan that starts now."""
    state.stage = ("scan",)
    state.scan = Scan(heads_of(state))
    return state.scan


def run_scan(host, state, between=None):
    """Runs a whole scan; `between` is called with the number of each question ahead of it. Returns what was asked."""
    scan = scan_of(state)
    asked = []
    while scan.phase != "end":
        if between is not None:
            between(len(asked))
        asked.append(scan_question(scan))
        assert answer_to_scan(state, scan, host.ask(asked[-1]))
    end_scan(state, scan)
    return asked


def rows(placed):
    """The rows of placed entries."""
    return [placed_row(entry) for entry in placed]


def looks_of(state):
    """All that a state is, as plain values (except for a scan)."""
    told = {name: value for name, value in vars(state).items() if name not in ("know", "placed", "shelf", "scan")}
    told["rule"] = dict(vars(state.rule))
    told["know"] = with_own_lists(vars(state.know))
    told["placed"] = rows(state.placed)
    told["shelf"] = shelf_rows(state.shelf)
    return with_own_lists(told)


def with_own_lists(told):
    """An equal dict in which each list is a new one."""
    return {name: list(value) if isinstance(value, list) else value for name, value in told.items()}
