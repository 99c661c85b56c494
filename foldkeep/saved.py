"""The text of a keeper: all that it keeps, except for what it is about."""

from foldkeep.codes import (
    Reader, pack_all, pack_content, pack_edit, pack_flag, pack_ids, pack_line, pack_maybe_id, pack_operation,
    pack_path, pack_placed, pack_shelved, pack_text, read_edit, read_line, read_operation, read_placed, read_shelved,
)
from foldkeep.digits import plain_number
from foldkeep.errors import NoKeeper
from foldkeep.knowing import Knowledge
from foldkeep.names import Rule
from foldkeep.state import KeeperState

FIRST_LINE = "foldkeep keeper 1"
MOST_DIGITS = 60


def pack_rule(rule):
    """The integers of a rule."""
    numbers = pack_all([[ord(pair[0]), ord(pair[1])] for pair in rule.alike])
    numbers.extend(pack_all([pack_text(name) for name in rule.unfit]) + [rule.longest])
    for flag in (rule.swaps, rule.reads, rule.cuts, rule.turns):
        numbers.extend(pack_flag(flag))
    return numbers


def pack_clocks(clocks):
    """The integers of a list of pairs (device, clock)."""
    return pack_all([list(pair) for pair in clocks])


def pack_know(know):
    """The integers of what a keeper knows."""
    numbers = [know.clock] + pack_all([pack_line(line) for line in know.base]) + [know.upto]
    return numbers + pack_all([pack_edit(edit) for edit in know.rest]) + pack_clocks(know.knows)


def pack_change(change):
    """The integers of a change that may be None."""
    if change is None:
        return [0]
    operation, names, ids, line, content = change
    numbers = [1] + pack_operation(operation) + pack_path(names) + pack_ids(ids)
    return numbers + pack_maybe_id(line) + pack_content(content)


def pack_asked(entries):
    """The integers of a list of tuples (head, number, holder)."""
    return pack_all([[*head, number, holder] for head, number, holder in entries])


def pack_first_half(state):
    """The integers of what a keeper is, what it knows, and what it believes to stand in its folder."""
    numbers = [state.me] + pack_all([[device] for device in state.devices]) + pack_rule(state.rule)
    numbers.extend(pack_all([pack_text(pattern) for pattern in state.ignores]) + pack_know(state.know))
    numbers.extend(pack_all([[device] + pack_clocks(knows) for device, knows in state.heard]))
    numbers.extend(pack_all([pack_placed(item) for item in state.placed]))
    numbers.extend(pack_all([pack_path(path) + pack_ids(ids) for path, ids in state.had]))
    return numbers + pack_all([pack_path(path) for path in state.taken])


def pack_second_half(state):
    """The integers of a keeper's shelf, and of all that it is to do."""
    numbers = pack_all([pack_shelved(entry) for entry in state.shelf]) + [state.next_place] + pack_change(state.pending)
    numbers.extend(pack_all([pack_path(path) for path in state.late]))
    numbers.extend(pack_all([[device, *head, start] for device, head, start in state.requests]))
    numbers.extend(pack_all([[*head, start] + pack_text(text) for head, start, text in state.pieces]))
    numbers.extend(pack_asked(state.away))
    numbers.extend(pack_all([[device, number, *head, place] for device, number, head, place in state.holding]))
    numbers.extend(pack_asked(state.asking) + pack_ids(state.fetching))
    return numbers + pack_all([[place] for place in state.drops]) + [state.next_number]


def pack_state(state):
    """The list of integers of a keeper's state."""
    return pack_first_half(state) + pack_second_half(state)


def save_text(state):
    """The text of a keeper with this state."""
    words = [str(number) for number in pack_state(state)]
    return FIRST_LINE + "\n" + " ".join(words) + "\n"


def read_list(reader, action):
    """Reads a list whose elements the action reads, as a list."""
    return [action(reader) for _ in range(reader.size())]


def number_of(reader):
    """Reads an integer."""
    return reader.number()


def text_of(reader):
    """Reads a string."""
    return reader.text()


def path_of(reader):
    """Reads a path."""
    return reader.path()


def id_of(reader):
    """Reads an id."""
    return reader.edit_id()


def read_pair_of_signs(reader):
    """Reads a string of two characters, without its length."""
    first = reader.sign()
    return first + reader.sign()


def read_rule(reader):
    """Reads a rule."""
    alike = read_list(reader, read_pair_of_signs)
    unfit = read_list(reader, text_of)
    longest = reader.number()
    swaps = reader.flag()
    reads = reader.flag()
    cuts = reader.flag()
    turns = reader.flag()
    return Rule(
        alike=tuple(alike), unfit=tuple(unfit), longest=longest, swaps=swaps, reads=reads, cuts=cuts, turns=turns,
    )


def read_clock(reader):
    """Reads a pair (device, clock)."""
    device = reader.number()
    return (device, reader.number())


def read_know(reader, devices):
    """Reads what a keeper knows."""
    clock = reader.number()
    base = read_list(reader, read_line)
    upto = reader.number()
    rest = read_list(reader, read_edit)
    return Knowledge(devices, clock=clock, base=base, upto=upto, rest=rest, knows=read_list(reader, read_clock))


def read_heard(reader):
    """Reads what a device said that it knows."""
    device = reader.number()
    return (device, tuple(read_list(reader, read_clock)))


def read_had(reader):
    """Reads what programs have had at a path."""
    path = reader.path()
    return (path, reader.edit_ids())


def read_change(reader):
    """Reads a change that may be None."""
    if not reader.flag():
        return None
    operation = read_operation(reader)
    names = reader.path()
    ids = reader.edit_ids()
    line = reader.maybe_id()
    return (operation, names, ids, line, reader.content())


def read_request(reader):
    """Reads a request."""
    device = reader.number()
    head = reader.edit_id()
    return (device, head, reader.number())


def read_piece(reader):
    """Reads a piece that has come."""
    head = reader.edit_id()
    start = reader.number()
    return (head, start, reader.text())


def read_asked(reader):
    """Reads a tuple (head, number, holder)."""
    head = reader.edit_id()
    number = reader.number()
    return (head, number, reader.number())


def read_holding(reader):
    """Reads a tuple (device, number, head, place)."""
    device = reader.number()
    number = reader.number()
    head = reader.edit_id()
    return (device, number, head, reader.number())


def read_state(reader):
    """Reads a keeper's state."""
    me = reader.number()
    devices = read_list(reader, number_of)
    rule = read_rule(reader)
    state = KeeperState(me, devices, rule, read_list(reader, text_of))
    state.know = read_know(reader, devices)
    state.heard = read_list(reader, read_heard)
    state.placed = read_list(reader, read_placed)
    state.had = read_list(reader, read_had)
    state.taken = read_list(reader, path_of)
    state.shelf = read_list(reader, read_shelved)
    state.next_place = reader.number()
    state.pending = read_change(reader)
    state.late = read_list(reader, path_of)
    state.requests = read_list(reader, read_request)
    state.pieces = read_list(reader, read_piece)
    state.away = read_list(reader, read_asked)
    state.holding = read_list(reader, read_holding)
    state.asking = read_list(reader, read_asked)
    state.fetching = read_list(reader, id_of)
    state.drops = read_list(reader, number_of)
    state.next_number = reader.number()
    if state.pending is not None:
        state.stage = ("look",)
    return state


def numbers_of(text):
    """The integers in the text of a keeper."""
    lines = text.split("\n")
    if len(lines) != 3 or lines[0] != FIRST_LINE or lines[2] != "":
        raise NoKeeper("the text does not have the two lines that it should have")
    numbers = [plain_number(word, MOST_DIGITS) for word in lines[1].split(" ")]
    if None in numbers:
        raise NoKeeper("a word is not an integer as it should be written")
    return numbers


def load_text(text):
    """The state that the text describes."""
    reader = Reader(numbers_of(text))
    state = read_state(reader)
    if not reader.at_end():
        raise NoKeeper("integers are left over")
    return state
