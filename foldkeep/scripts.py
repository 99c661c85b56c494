"""Scripts: texts whose lines say what happens in a net."""

from foldkeep.errors import FoldError, NoScript
from foldkeep.names import read_path
from foldkeep.words import parts_of

# What stands behind the word of a deed, of a wish, and of what else happens on a device or to a letter.
DEEDS = {
    "make": ("spot", "text", "runs"),
    "make_folder": ("spot",),
    "make_other": ("spot",),
    "remove": ("spot",),
    "remove_folder": ("spot",),
    "rename": ("spot", "spot"),
    "cut": ("target",),
    "write": ("target", "number", "text"),
    "set_runs": ("target", "runs"),
    "read": ("target",),
    "open": ("spot",),
    "close": ("number",),
}
WISHES = {
    "scan": (),
    "put_away": ("path", "number"),
    "fetch": ("path",),
    "trim": ("number",),
    "restore": ("number", "path"),
}
ON_DEVICES = {"step": (), "refuse": (), "unanswered": (), "crash": (), "speak": ("number",)}
ON_LETTERS = {"deliver": ("number",), "lose": ("number",), "again": ("number",)}


def form_number(parts):
    """Reads a number: what it is, and how many parts it takes; None if the parts do not begin so."""
    if parts == [] or parts[0][0] != "number":
        return None
    return (parts[0][1], 1)


def form_text(parts):
    """Reads a quoted text, likewise."""
    if parts == [] or parts[0][0] != "quoted":
        return None
    return (parts[0][1], 1)


def form_path(parts):
    """Reads a path, likewise."""
    read = form_text(parts)
    if read is None:
        return None
    path = read_path(read[0])
    if path is None:
        return None
    return (path, 1)


def form_runs(parts):
    """Reads whether a file runs, likewise."""
    if parts[:1] == [("word", "runs")]:
        return (True, 1)
    if parts[:1] == [("word", "plain")]:
        return (False, 1)
    return None


def form_spot(parts):
    """Reads a spot, likewise."""
    taken = 1
    if parts[:1] == [("word", "folder")] or parts[:1] == [("word", "outside")]:
        base = parts[0][1]
    elif parts[:1] == [("word", "in")] and form_number(parts[1:]) is not None:
        base = parts[1][1]
        taken = 2
    else:
        return None
    read = form_path(parts[taken:])
    if read is None:
        return None
    return ((base, read[0]), taken + 1)


def form_target(parts):
    """Reads a target, likewise."""
    if parts[:1] != [("word", "thing")]:
        return form_spot(parts)
    read = form_number(parts[1:])
    if read is None:
        return None
    return (read[0], 2)


FORMS = {
    "number": form_number,
    "text": form_text,
    "path": form_path,
    "runs": form_runs,
    "spot": form_spot,
    "target": form_target,
}


def read_forms(forms, parts):
    """What the parts are if they have just these forms, as a tuple; otherwise None."""
    things = []
    for form in forms:
        action = FORMS[form]
        read = action(parts)
        if read is None:
            return None
        things.append(read[0])
        parts = parts[read[1]:]
    if parts != []:
        return None
    return tuple(things)


def first_word(parts):
    """The word with which the parts begin, or None."""
    if parts == [] or parts[0][0] != "word":
        return None
    return parts[0][1]


def read_behind_word(forms, parts):
    """The first word and what stands behind it, as a tuple, if that has these forms; otherwise None."""
    if forms is None:
        return None
    things = read_forms(forms, parts[1:])
    if things is None:
        return None
    return (first_word(parts), *things)


def read_on_device(device, parts):
    """What happens on a device, or None."""
    word = first_word(parts)
    if word == "wish":
        wished = read_behind_word(WISHES.get(first_word(parts[1:])), parts[1:])
        if wished is None:
            return None
        return ("wish", device, wished)
    deed = read_behind_word(DEEDS.get(word), parts)
    if deed is not None:
        return ("program", device, deed)
    event = read_behind_word(ON_DEVICES.get(word), parts)
    if event is None:
        return None
    return (event[0], device) + event[1:]


def read_event(line):
    """What a line says, or None if it has none of the forms."""
    parts = parts_of(line)
    if parts is None:
        return None
    if parts[0][0] == "number":
        return read_on_device(parts[0][1], parts[1:])
    return read_behind_word(ON_LETTERS.get(first_word(parts)), parts)


def read_events(text):
    """The pairs (number, event) of the lines that say something."""
    events = []
    lines = text.split("\n")
    for at, line in enumerate(lines):
        if line != "" and not line.startswith("#"):
            event = read_event(line)
            if event is None:
                raise NoScript(at + 1)
            events.append((at + 1, event))
    return events


def let_happen(net, event):
    """Lets an event happen in the net."""
    kind = event[0]
    if kind == "program":
        net.program(event[1], event[2])
    elif kind == "wish":
        net.wish(event[1], event[2])
    elif kind == "speak":
        net.speak(event[1], event[2])
    else:
        action = SIMPLE[kind]
        action(net, event[1])


def step(net, device):
    """Lets a keeper make a step."""
    net.step(device)


def refuse(net, device):
    """Lets a host refuse."""
    net.refuse(device)


def unanswered(net, device):
    """Lets a keeper crash without the answer."""
    net.unanswered(device)


def crash(net, device):
    """Lets a keeper crash."""
    net.crash(device)


def deliver(net, place):
    """Delivers a letter."""
    net.deliver(place)


def lose(net, place):
    """Loses a letter."""
    net.lose(place)


def again(net, place):
    """Doubles a letter."""
    net.again(place)


SIMPLE = {
    "step": step,
    "refuse": refuse,
    "unanswered": unanswered,
    "crash": crash,
    "deliver": deliver,
    "lose": lose,
    "again": again,
}


def run_script(net, text):
    """Lets the events of a script happen, up to the first one that is not possible, and returns its number, or None."""
    for number, event in read_events(text):
        try:
            let_happen(net, event)
        except FoldError:
            return number
    return None
