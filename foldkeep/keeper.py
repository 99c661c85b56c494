"""Keepers, which make the folders of devices alike."""

from foldkeep.asking import question_of
from foldkeep.away import wish_fetch, wish_put_away
from foldkeep.errors import NoSuchDevice, NotNow
from foldkeep.hearing import hear_word, take_answer
from foldkeep.holding import say_away
from foldkeep.kept import wish_restore, wish_trim
from foldkeep.lines import stands
from foldkeep.news import news_for
from foldkeep.saved import load_text, save_text
from foldkeep.scanning import Scan, scan_copy
from foldkeep.serving import say_asks
from foldkeep.state import KeeperState, placed_row, shelved_row, state_copy
from foldkeep.wanted import wanted


class Keeper:
    """What makes the folder of a device like those of the other devices."""

    def __init__(self, me, devices, rule, ignores=()):
        if me not in devices:
            raise NoSuchDevice("the keeper's device is not one of the devices")
        self.state = KeeperState(me, devices, rule, ignores)

    def want(self):
        """The operation that it asks for, or None."""
        return question_of(self.state)

    def told(self, answer):
        """Takes an answer; returns the pairs (receiver, word) that it says then."""
        return take_answer(self.state, answer)

    def hear(self, sender, word):
        """Hears a word; returns the pairs (receiver, word) that it says then."""
        if not is_other_device(self.state, sender):
            return []
        return hear_word(self.state, sender, word)

    def speak(self, receiver):
        """The words for another device."""
        state = self.state
        if not is_other_device(state, receiver):
            raise NoSuchDevice("it is not another one of the keeper's devices")
        news = news_for(state.know, known_by(state, receiver))
        return [news] + say_asks(state) + say_away(state, receiver)

    def wish(self, wished):
        """Does what is wished."""
        action = WISHES[wished[0]]
        action(self.state, wished)

    def crash(self):
        """Forgets what it is about; if a change is pending, it looks at its shelf next."""
        state = self.state
        state.scan = None
        state.stage = ("idle",) if state.pending is None else ("look",)

    def status(self):
        """What it keeps, as a dict."""
        state = self.state
        kind = state.stage[0]
        return {
            "device": state.me,
            "stage": "reading" if kind == "asking" else kind,
            "pending": None if state.pending is None else state.pending[0],
            "clock": state.know.clock,
            "upto": state.know.upto,
            "knows": list(state.know.knows),
            "placed": [placed_row(item) for item in state.placed],
            "had": list(state.had),
            "taken": list(state.taken),
            "late": list(state.late),
            "shelf": [shelved_row(entry) for entry in state.shelf],
            "away": list(state.away),
            "holding": list(state.holding),
            "asking": list(state.asking),
            "fetching": list(state.fetching),
            "drops": list(state.drops),
        }

    def lines(self):
        """The known lines, each with the path at which it stands."""
        lines = self.state.know.lines()
        return [line + (stands(lines, line),) for line in lines]

    def wanted(self):
        """The list of what is wanted."""
        return wanted(self.state)

    def save(self):
        """The text of the keeper."""
        return save_text(self.state)


def is_other_device(state, device):
    """True if it is one of the keeper's devices, but not its own."""
    return device != state.me and device in state.devices


def known_by(state, receiver):
    """What the receiver said last that it knows."""
    known = tuple([(device, 0) for device in state.devices])
    for device, knows in state.heard:
        if device == receiver:
            known = knows
    return known


def scan_wished(state, _):
    """Starts a scan; while something goes back, the keeper only tries again to bring it back."""
    if state.stage != ("idle",):
        raise NotNow("the keeper is not idle")
    paths = [entry.purpose[2] for entry in state.shelf if entry.purpose[0] == "back"]
    if paths != []:
        state.late = [path for path in state.late if path not in paths]
        return
    state.scan = Scan([line[1] for line in state.know.lines()])
    state.stage = ("scan",)


def put_away_wished(state, wished):
    """Asks another device to hold the text of a file."""
    _, path, holder = wished
    wish_put_away(state, path, holder)


def fetch_wished(state, wished):
    """Wishes a text back."""
    wish_fetch(state, wished[1])


def trim_wished(state, wished):
    """Lets what is spare be dropped."""
    wish_trim(state, wished[1])


def restore_wished(state, wished):
    """Tells of what is kept as a new file."""
    _, place, path = wished
    wish_restore(state, place, path)


WISHES = {
    "scan": scan_wished,
    "put_away": put_away_wished,
    "fetch": fetch_wished,
    "trim": trim_wished,
    "restore": restore_wished,
}


def keeper_with(state):
    """A keeper with this state, whatever its devices are."""
    keeper = Keeper(state.me, [state.me], state.rule)
    keeper.state = state
    return keeper


def load_keeper(text):
    """The keeper with this text, as after a crash."""
    return keeper_with(load_text(text))


def keeper_copy(keeper):
    """An equal keeper that shares nothing that can change."""
    state = state_copy(keeper.state)
    if state.scan is not None:
        state.scan = scan_copy(state.scan)
    return keeper_with(state)
