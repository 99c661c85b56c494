"""Hosts: objects that model the disks of devices."""

from foldkeep.deeds import do_deed
from foldkeep.operations import answer_of, on_shelf
from foldkeep.things import rows_below, rows_of, thing_copy


class Host:
    """A disk with a folder, a place outside of the folder, and a shelf."""

    def __init__(self, rule):
        self.rule = rule
        self.turned = 0
        self.opened = []
        self.last_number = 0
        # All things that exist, by number.
        self.things = {}
        # What folders hold, by base: the numbers of the things, by what their names count as.
        self.folders = {"folder": {}, "outside": {}}
        # The numbers of the things that lie on the shelf, by place.
        self.lying = {}
        # The pairs (number, count) of files that programs have read.
        self.have_read = {}

    def program(self, deed):
        """Does a deed of a program."""
        do_deed(self, deed)

    def ask(self, operation):
        """Does an operation of a keeper and returns its answer."""
        return answer_of(self, operation)

    def tree(self):
        """The rows of what stands in the folder."""
        return rows_below(self, "folder")

    def outside(self):
        """The rows of what stands outside."""
        return rows_below(self, "outside")

    def shelf(self):
        """The places of the shelf at which something lies, each with the rows of that."""
        return [(place, rows_of(self, on_shelf(self, place))) for place in sorted(self.lying)]


def host_copy(host):
    """An equal host that shares nothing that can change."""
    copy = Host(host.rule)
    copy.turned = host.turned
    copy.opened = list(host.opened)
    copy.last_number = host.last_number
    copy.things = {number: thing_copy(host.things[number]) for number in host.things}
    copy.folders = {base: dict(host.folders[base]) for base in host.folders}
    copy.lying = dict(host.lying)
    copy.have_read = {pair: True for pair in host.have_read}
    return copy
