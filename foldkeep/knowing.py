"""What a device knows: its clock, edits, and the lines that they make."""

from foldkeep.lines import find_head, fold_lines


def clock_in(clocks, device):
    """The first clock that the pairs (device, clock) name for the device, or 0."""
    for named, clock in clocks:
        if named == device:
            return clock
    return 0


def with_clock(clocks, device, clock):
    """The pairs (device, clock) with another clock for the device, if it is there."""
    return [(named, clock if named == device else known) for named, known in clocks]


class Knowledge:
    """The clock of a device, up to which clocks it knows edits, the base and the rest."""

    def __init__(self, devices, *, clock=0, base=(), upto=0, rest=(), knows=None):
        self.clock = clock
        self.base = list(base)
        self.upto = upto
        self.rest = list(rest)
        if knows is None:
            self.knows = [(device, 0) for device in devices]
        else:
            self.knows = list(knows)

    def lines(self):
        """The lines that are known."""
        return fold_lines(self.base, self.rest)

    def is_head(self, edit_id):
        """True if one of the known lines has this head."""
        return find_head(self.lines(), edit_id) is not None

    def known_up_to(self, device):
        """The clock up to which all edits of the device are known."""
        return clock_in(self.knows, device)

    def write(self, me, place, content, line, replaces):
        """Makes a write."""
        return self.made("write", me, (place, content, line, tuple(replaces)))

    def drop(self, me, replaces):
        """Makes a drop."""
        return self.made("drop", me, (tuple(replaces),))

    def move(self, me, moved):
        """Makes a move."""
        return self.made("move", me, (tuple(moved),))

    def made(self, kind, me, parts):
        """Makes an edit of this kind, with these parts after its id, and returns it."""
        self.clock += 1
        edit = (kind, (self.clock, me)) + parts
        self.rest.append(edit)
        self.knows = with_clock(self.knows, me, self.clock)
        return edit

    def copy_of(self):
        """An equal object that shares nothing that can change."""
        return Knowledge(
            [], clock=self.clock, base=self.base, upto=self.upto, rest=self.rest, knows=self.knows,
        )
