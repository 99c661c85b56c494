"""What the tests of whole nets share: programs that do deeds, rounds without loss, and what texts there are."""

from foldkeep.errors import FoldError, NotNow, NotPossible
from foldkeep.names import Rule
from foldkeep.net import Net

NAMES = ("a", "b", "c.txt")


def net_of(*rules, ignores=()):
    """A net with a device for each of these dicts of arguments of a rule."""
    return Net([Rule(**rule) for rule in rules], ignores)


def shape(host):
    """What can be seen of a host's folder: paths, kinds, texts and whether they run."""
    return [(path, kind, text, runs) for path, kind, _, _, _, text, runs in host.tree()]


def files(host):
    """The texts in a host's folder, by path as a text; None for a folder."""
    return {"/".join(row[0]): row[5] if row[1] == "file" else None for row in host.tree()}


def texts_by_thing(host):
    """The texts of all files on a host, wherever they are, by thing."""
    rows = host.tree() + host.outside()
    for _, lying in host.shelf():
        rows = rows + lying
    return {row[2]: row[5] for row in rows if row[1] == "file"}


def texts_in(net):
    """All texts that lie or stand anywhere in the net."""
    return {text for host in net.hosts for text in texts_by_thing(host).values()}


def are_alike(net):
    """True if all folders are alike."""
    return all(shape(host) == shape(net.hosts[0]) for host in net.hosts)


def work_all(net, most=3000):
    """Lets all devices work until none asks for anything."""
    for device in range(len(net.hosts)):
        assert net.work(device, most) < most, "the work does not end"


def talk(net, most=5000):
    """Lets each device speak to each other one, and delivers all letters in order."""
    for device in range(len(net.hosts)):
        for other in range(len(net.hosts)):
            if other != device:
                net.speak(device, other)
    assert net.post(most) < most, "the post does not end"


def scan_all(net):
    """Lets all devices that can scan do so."""
    for device in range(len(net.hosts)):
        try:
            net.wish(device, ("scan",))
        except NotNow:
            continue
        assert net.work(device, 3000) < 3000, "the work does not end"


def play_rounds(net, most=30, enough=5):
    """Rounds of scans, work and talk without loss until all folders are alike; returns how many there were, or None."""
    for number in range(most):
        work_all(net)
        scan_all(net)
        talk(net)
        work_all(net)
        if number + 1 >= enough and are_alike(net):
            return number + 1
    return None


class Programs:
    """Programs that do deeds at random; each text that they write is another one."""

    def __init__(self, random):
        self.random = random
        self.many = 0

    def text(self, length=0):
        self.many += 1
        return f"text {self.many};" + "x" * length

    def deed(self, host, kinds):
        """A deed of one of these kinds; it may not be possible."""
        tree = host.tree()
        folders = [()] + [row[0] for row in tree if row[1] == "folder"]
        goal = ("folder", self.random.choice(folders) + (self.random.choice(NAMES),))
        spot = ("folder", self.random.choice([row[0] for row in tree])) if tree else goal
        kind = self.random.choice(kinds)
        if kind == "make":
            return ("make", goal, self.text(), self.random.random() < 0.2)
        if kind in ("make_folder", "make_other"):
            return (kind, goal)
        if kind == "rename":
            return ("rename", spot, goal)
        if kind == "write":
            return ("write", spot, 0, self.text())
        if kind == "write_open":
            return ("write", self.random.choice(host.opened or [0]), 0, self.text())
        if kind == "close":
            return ("close", self.random.choice(host.opened or [0]))
        if kind == "set_runs":
            return ("set_runs", spot, self.random.random() < 0.5)
        if kind in ("rename_out", "rename_in"):
            beyond = ("outside", (self.random.choice(NAMES),))
            return ("rename", spot, beyond) if kind == "rename_out" else ("rename", beyond, goal)
        return (kind, spot)


class Watch:
    """Watches which texts programs have left: those that no program has overwritten, emptied or removed since."""

    def __init__(self, net):
        self.net = net
        self.left = set()

    def program(self, device, deed):
        """Lets a program do a deed, if it is possible."""
        host = self.net.hosts[device]
        before = texts_by_thing(host)
        try:
            self.net.program(device, deed)
        except NotPossible:
            return
        after = texts_by_thing(host)
        for thing, text in before.items():
            if after.get(thing) != text:
                self.left.discard(text)
        for thing, text in after.items():
            if before.get(thing) != text and text != "":
                self.left.add(text)

    def lost(self):
        """The texts that programs have left and that are nowhere any more."""
        return self.left - texts_in(self.net)


def try_to(action, *arguments):
    """Does something that may not be possible now."""
    try:
        action(*arguments)
    except FoldError:
        pass
