"""Scans: what they ask of a host, and how they take the answers in."""

from foldkeep.marks import mark_of
from foldkeep.patterns import ignored
from foldkeep.state import had_at, placed_at


class Found:
    """Something that a scan found."""

    def __init__(self, path, thing, kind, count, cuts, mark):
        self.path = path
        self.thing = thing
        self.kind = kind
        self.count = count
        self.cuts = cuts
        self.mark = mark


class Scan:
    """A scan that has asked nothing yet."""

    def __init__(self, heads):
        # A slice is new, as a list that is passed in must not be kept.
        self.heads = heads[:]
        self.at_rest = False
        self.found = []
        self.taken = []
        self.have_read = []
        self.phase = "total"
        self.first_total = None
        # The folders whose names are still to be asked for.
        self.folders = [()]
        # How many of those that were found have had their turn to be read.
        self.passed = 0
        # The pairs (thing, count) of which it is still to be asked whether programs have read them.
        self.questions = []


def scan_question(scan):
    """The operation that the scan asks for; not in the phase "end"."""
    if scan.phase == "names":
        return ("names", scan.folders[0])
    if scan.phase == "read":
        return ("read", next_unread(scan).path)
    if scan.phase == "ask":
        thing, count = scan.questions[0]
        return ("was_read", thing, count)
    return ("total",)


def next_unread(scan):
    """The next file without a mark that has not had its turn yet, or None."""
    for found in scan.found[scan.passed:]:
        if found.kind == "file" and found.mark is None:
            return found
    return None


def answer_to_scan(state, scan, answer):
    """Takes an answer in; False if the scan is over because the first total was refused."""
    if scan.phase == "total" and answer[0] != "total":
        return False
    action = TAKERS[scan.phase]
    action(state, scan, answer)
    return True


def take_first_total(_, scan, answer):
    """Takes the first total in."""
    scan.first_total = answer[1]
    scan.at_rest = scan.first_total is not None
    scan.phase = "names"


def take_names(state, scan, answer):
    """Takes in what stands in a folder."""
    above = scan.folders[0]
    scan.folders = scan.folders[1:]
    if answer[0] == "names":
        for row in answer[1]:
            take_row(state, scan, above, row)
    else:
        scan.at_rest = False
    if scan.folders == []:
        scan.phase = "again"


def take_row(state, scan, above, row):
    """Takes in one row of a folder's names."""
    name, thing, kind, count, cuts = row
    path = above + (name,)
    placed = placed_at(state.placed, path)
    if kind == "other" or placed is None and ignored(state.ignores, name):
        scan.taken.append(path)
        return
    mark = None
    if kind == "file" and is_unchanged(placed, thing, count):
        mark = placed.content
    scan.found.append(Found(path, thing, kind, count, cuts, mark))
    if kind == "folder":
        scan.folders.append(path)


def is_unchanged(placed, thing, count):
    """True if the entry is the one of a file with this thing and count."""
    if placed is None or placed.content is None:
        return False
    return placed.thing == thing and placed.count == count


def take_second_total(state, scan, answer):
    """Takes the second total in, which tells whether the names were at rest."""
    if answer[0] != "total" or answer[1] != scan.first_total:
        scan.at_rest = False
    begin_reading(state, scan)


def begin_reading(state, scan):
    """Lets the scan read on, if there is anything to be read, and ask otherwise."""
    scan.phase = "read"
    if next_unread(scan) is None:
        scan.questions = questions_of(state, scan)
        begin_asking(scan)


def take_text(state, scan, answer):
    """Takes in the text of a file, which all that was found at its path gets."""
    asked = next_unread(scan)
    scan.passed = scan.found.index(asked) + 1
    if answer[0] == "text":
        _, thing, count, cuts, text, runs = answer
        for found in scan.found:
            if found.path == asked.path and found.kind == "file":
                found.thing = thing
                found.count = count
                found.cuts = cuts
                found.mark = mark_of(text, runs)
    begin_reading(state, scan)


def questions_of(state, scan):
    """What is to be asked: whether programs have read the placed files that stand for what they have not had."""
    questions = []
    for entry in state.placed:
        if entry.content is not None and entry.ids != had_at(state.had, entry.path):
            found = first_file(scan, entry.path)
            if found is None or found.thing != entry.thing or found.count != entry.count:
                questions.append((entry.thing, entry.count))
    return questions


def first_file(scan, path):
    """The first file that was found at the path, or None."""
    for found in scan.found:
        if found.kind == "file" and found.path == path:
            return found
    return None


def begin_asking(scan):
    """Lets the scan ask on, if there is anything to be asked, and end otherwise."""
    scan.phase = "ask"
    if scan.questions == []:
        scan.phase = "end"


def take_was_read(_, scan, answer):
    """Takes in whether programs have read a thing with a count; another answer leaves the question open."""
    if answer[0] != "was_read":
        return
    # A host that does not tell may have let programs read it.
    if answer[1] is not False:
        scan.have_read.append(scan.questions[0])
    scan.questions = scan.questions[1:]
    begin_asking(scan)


TAKERS = {
    "total": take_first_total,
    "names": take_names,
    "again": take_second_total,
    "read": take_text,
    "ask": take_was_read,
}


def found_copy(found):
    """Something equal that was found."""
    return Found(found.path, found.thing, found.kind, found.count, found.cuts, found.mark)


def scan_copy(scan):
    """An equal scan that shares nothing that can change."""
    copy = Scan(scan.heads)
    copy.at_rest = scan.at_rest
    copy.found = [found_copy(found) for found in scan.found]
    copy.taken = list(scan.taken)
    copy.have_read = list(scan.have_read)
    copy.phase = scan.phase
    copy.first_total = scan.first_total
    copy.folders = list(scan.folders)
    copy.passed = scan.passed
    copy.questions = list(scan.questions)
    return copy
