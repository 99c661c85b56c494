"""Points 55 to 73: scans as a keeper makes them with a host, question by question."""

import unittest

from foldkeep.errors import NotNow
from foldkeep.names import Rule
from foldkeep.net import Net
from keeps import looks_of, mark
from plays import files, net_of, play_rounds, talk, work_all


def inside(*path):
    return ("folder", path)


class Case(unittest.TestCase):
    def net(self, *deeds, many=2, ignores=(), **rule):
        net = Net([Rule(**rule) for _ in range(many)], ignores)
        self.do(net, *deeds)
        return net

    def do(self, net, *deeds, device=0):
        for deed in deeds:
            net.program(device, deed)

    def scan(self, net, ahead=None, device=0):
        """Makes a scan and what follows; `ahead` is called with the number of each step. Returns what was asked."""
        net.wish(device, ("scan",))
        asked = []
        while True:
            if ahead is not None:
                ahead(len(asked))
            made = net.step(device)
            if made is None:
                return asked
            asked.append(made[0])
            self.assertLess(len(asked), 200)

    def rest(self, net, device=0):
        return net.keepers[device].state.know.rest

    def placed(self, net, device=0):
        return [(row[0], row[6], row[8]) for row in net.keepers[device].status()["placed"]]


class Questions(Case):
    """Point 56: what is asked, and in which order."""

    def test_an_empty_folder(self):
        net = self.net()
        self.assertEqual(self.scan(net), [("total",), ("names", ()), ("total",), ("shelf",)])

    def test_folders_in_the_order_in_which_they_are_found_and_then_the_files(self):
        net = self.net(
            ("make_folder", inside("d")), ("make_folder", inside("d", "e")), ("make_folder", inside("c")),
            ("make", inside("z"), "z", False), ("make", inside("d", "x"), "x", False), ("make", inside("a"), "a", False))
        self.assertEqual(self.scan(net), [
            ("total",), ("names", ()), ("names", ("c",)), ("names", ("d",)), ("names", ("d", "e")), ("total",),
            ("read", ("a",)), ("read", ("z",)), ("read", ("d", "x")), ("shelf",)])
        self.assertEqual([edit[2][2] for edit in self.rest(net)], [("c",), ("d",), ("d", "e"), ("a",), ("z",), ("d", "x")])

    def test_what_is_known_is_not_read_again(self):
        net = self.net(("make", inside("a"), "a", False), ("make", inside("b"), "b", False))
        self.scan(net)
        self.assertEqual(self.scan(net), [("total",), ("names", ()), ("total",), ("shelf",)])
        self.do(net, ("write", inside("b"), 0, "B"))
        self.assertEqual(self.scan(net), [("total",), ("names", ()), ("total",), ("read", ("b",)), ("shelf",)])
        self.assertEqual(len(self.rest(net)), 3)

    def test_whether_programs_have_read_is_asked_last(self):
        net = self.net(("make", inside("a"), "a", False))
        play_rounds(net)
        self.do(net, ("write", inside("a"), 0, "b"), device=1)
        # Programs of device 1 have not had what they wrote over.
        self.assertEqual(self.scan(net, device=1), [
            ("total",), ("names", ()), ("total",), ("read", ("a",)), ("was_read", 1, 0), ("shelf",)])
        self.assertEqual(self.rest(net, 1)[-1][5], ((1, 0),))

    def test_ignored_names_and_other_things(self):
        net = self.net(("make", inside("a.tmp"), "a", False), ("make_other", inside("o")), ("make_folder", inside("d.tmp")),
                       ("make", inside("b"), "b", False), ignores=["*.tmp"])
        self.assertEqual(self.scan(net), [("total",), ("names", ()), ("total",), ("read", ("b",)), ("shelf",)])
        self.assertEqual(net.keepers[0].status()["taken"], [("a.tmp",), ("d.tmp",), ("o",)])


class Ends(Case):
    def test_it_looks_at_its_shelf_afterwards_and_nothing_is_late(self):
        net = self.net(("make", inside("a"), "a", False))
        net.keepers[0].state.late = [("a",), ("b",)]
        net.wish(0, ("scan",))
        for _ in range(4):
            self.assertEqual(net.keepers[0].status()["late"], [("a",), ("b",)])
            self.assertEqual(net.keepers[0].status()["stage"], "scan")
            net.step(0)
        status = net.keepers[0].status()
        self.assertEqual((status["late"], status["stage"], status["pending"]), ([], "look", None))
        self.assertEqual(net.step(0)[0], ("shelf",))
        self.assertEqual(net.keepers[0].status()["stage"], "idle")

    def test_what_it_found(self):
        net = self.net(("make", inside("a"), "a", False), ("make_folder", inside("d")))
        self.scan(net)
        self.assertEqual(self.placed(net), [(("d",), ((1, 0),), True), (("a",), ((2, 0),), True)])
        self.assertEqual(net.keepers[0].status()["had"], [(("a",), ((2, 0),))])
        self.assertEqual([line[5] for line in net.keepers[0].lines()], [("d",), ("a",)])

    def test_renames_and_removals(self):
        net = self.net(("make", inside("a"), "a", False), ("make", inside("b"), "b", False), ("make_folder", inside("d")))
        self.scan(net)
        self.do(net, ("rename", inside("a"), inside("d", "c")), ("remove", inside("b")))
        before = len(self.rest(net))
        self.scan(net)
        self.assertEqual([edit[0] for edit in self.rest(net)[before:]], ["move", "drop"])
        self.assertEqual([line[5] for line in net.keepers[0].lines()], [("d",), ("d", "c")])

    def test_nothing_is_told_twice(self):
        net = self.net(("make", inside("a"), "a", False), ("make_folder", inside("d")), ("make", inside("d", "b"), "b", False))
        self.scan(net)
        before = looks_of(net.keepers[0].state)
        self.scan(net)
        self.assertEqual(looks_of(net.keepers[0].state), before)


class NotAtRest(Case):
    """What programs do while the scan goes on."""

    def deeds_at(self, number, *deeds):
        def ahead(step):
            if step == number:
                self.do(self.played, *deeds)
        return ahead

    def played_with(self, number, *deeds, **rule):
        self.played = self.net(("make", inside("a"), "a", False), ("make", inside("b"), "b", False), **rule)
        self.scan(self.played)
        self.scan(self.played, self.deeds_at(number, *deeds))
        return self.played

    def test_a_file_is_removed_while_the_names_are_told(self):
        for number in [1, 2]:
            net = self.played_with(number, ("remove", inside("a")))
            self.assertEqual([edit[0] for edit in self.rest(net)], ["write", "write"])
            self.assertEqual(len(self.placed(net)), 2)
            # The next scan tells it.
            self.scan(net)
            self.assertEqual([edit[0] for edit in self.rest(net)], ["write", "write", "drop"])

    def test_a_file_is_removed_before_and_after_the_names_are_told(self):
        net = self.played_with(0, ("remove", inside("a")))
        self.assertEqual([edit[0] for edit in self.rest(net)][2:], ["drop"])
        net = self.played_with(3, ("remove", inside("a")))
        self.assertEqual([edit[0] for edit in self.rest(net)][2:], [])

    def test_a_file_is_renamed_while_the_names_are_told(self):
        net = self.played_with(1, ("rename", inside("a"), inside("z")))
        # What stands at the new path is told as a new file, and nothing is removed or moved.
        self.assertEqual([edit[0] for edit in self.rest(net)], ["write"] * 3)
        self.assertEqual([row[0] for row in self.placed(net)], [("b",), ("z",), ("a",)])

    def test_a_host_that_does_not_tell_how_often_names_were_changed(self):
        net = self.played_with(9, turns=False)
        self.do(net, ("remove", inside("a")), ("rename", inside("b"), inside("c")))
        self.scan(net)
        self.assertEqual([edit[0] for edit in self.rest(net)], ["write"] * 3)

    def test_a_file_is_gone_when_it_is_to_be_read(self):
        net = self.net(("make", inside("a"), "a", False), ("make", inside("b"), "b", False))
        self.scan(net, lambda step: step == 3 and self.do(net, ("remove", inside("a"))))
        self.assertEqual([edit[2][2] for edit in self.rest(net)], [("b",)])
        self.assertEqual([row[0] for row in self.placed(net)], [("b",)])

    def test_a_file_is_written_when_it_is_to_be_read(self):
        net = self.net(("make", inside("a"), "old", False))
        self.scan(net, lambda step: step == 3 and self.do(net, ("write", inside("a"), 0, "new")))
        self.assertEqual([edit[3] for edit in self.rest(net)], [mark("new")])

    def test_it_is_written_after_it_was_read(self):
        net = self.net(("make", inside("a"), "old", False))
        self.scan(net, lambda step: step == 4 and self.do(net, ("write", inside("a"), 0, "new")))
        self.assertEqual([edit[3] for edit in self.rest(net)], [mark("old")])
        self.scan(net)
        self.assertEqual([edit[3:] for edit in self.rest(net)[1:]], [(mark("new"), (1, 0), ((1, 0),))])


class Refused(Case):
    """Each question refused in its turn, and crashes at each step."""

    DEEDS = (("make_folder", inside("d")), ("make", inside("d", "x"), "x", False), ("make", inside("a"), "a", False))

    def scanned(self, number, fault):
        net = self.net(*self.DEEDS)
        net.wish(0, ("scan",))
        for step in range(30):
            if step == number:
                fault(net)
            elif net.step(0) is None:
                break
        return net

    def test_refusals(self):
        # total, names, names d, total, read a, read d/x, shelf
        for number, told in enumerate([[], [], [("d",), ("a",)], [("d",), ("a",), ("d", "x")], [("d",), ("d", "x")],
                                       [("d",), ("a",)], [("d",), ("a",), ("d", "x")]]):
            net = self.scanned(number, lambda net: net.refuse(0))
            self.assertEqual([edit[2][2] for edit in self.rest(net)], told, number)
            self.assertEqual(net.keepers[0].status()["stage"], "idle")
            self.complete(net)

    def test_crashes(self):
        for fault in [lambda net: net.crash(0), lambda net: net.unanswered(0)]:
            for number in range(6):
                net = self.scanned(number, fault)
                self.assertEqual((self.rest(net), self.placed(net)), ([], []), number)
                self.complete(net)

    def complete(self, net):
        """A later scan tells all that is left, and each thing once."""
        self.scan(net)
        self.assertEqual(sorted(line[5] for line in net.keepers[0].lines()), [("a",), ("d",), ("d", "x")])
        self.assertEqual(len(self.rest(net)), 3)

    def test_refused_names_and_removals(self):
        net = self.net(*self.DEEDS)
        self.scan(net)
        self.do(net, ("remove", inside("a")))
        net.wish(0, ("scan",))
        for step in range(20):
            if step == 2:
                net.refuse(0)
            elif net.step(0) is None:
                break
        # Nothing is told of what is missing unless all names were told.
        self.assertEqual([edit[0] for edit in self.rest(net)], ["write"] * 3)
        self.assertEqual(len(self.placed(net)), 3)

    def test_an_answer_that_is_not_to_the_question(self):
        net = self.net(("make", inside("a"), "a", False))
        play_rounds(net)
        self.do(net, ("write", inside("a"), 0, "b"), device=1)
        net.wish(1, ("scan",))
        for _ in range(4):
            net.step(1)
        self.assertEqual(net.keepers[1].want(), ("was_read", 1, 0))
        for _ in range(3):
            net.refuse(1)
            self.assertEqual(net.keepers[1].want(), ("was_read", 1, 0))
        net.step(1)
        self.assertEqual(net.keepers[1].status()["stage"], "look")


class WordsMeanwhile(Case):
    def test_what_comes_while_it_scans_is_not_replaced(self):
        net = net_of({}, {})
        self.do(net, ("make", inside("a"), "one", False))
        play_rounds(net)
        for device, text in [(0, "left"), (1, "right")]:
            self.do(net, ("read", inside("a")), ("write", inside("a"), 0, text), device=device)
        self.scan(net, device=1)
        net.speak(1, 0)
        self.scan(net, lambda step: step == 2 and net.post(9))
        self.assertEqual(self.rest(net), [
            ("write", (3, 0), (None, ("a",), ("a",)), mark("left"), (1, 0), ((1, 0),))])
        self.assertIsNotNone(play_rounds(net))
        # The head had been replaced by then, so the file of device 0 is one of its own beside the other one.
        self.assertEqual(files(net.hosts[0]), {"a": "right", "a (3-0)": "left"})

    def test_a_file_that_comes_while_it_scans_is_not_removed(self):
        net = net_of({}, {})
        self.do(net, ("make", inside("a"), "one", False), device=1)
        self.scan(net, device=1)
        net.speak(1, 0)
        self.scan(net, lambda step: step == 2 and net.post(9))
        self.assertEqual([line[1] for line in net.keepers[0].lines()], [(1, 1)])
        self.assertIsNotNone(play_rounds(net))
        self.assertEqual(files(net.hosts[0]), {"a": "one"})

    def test_the_same_text_from_two_devices(self):
        net = net_of({}, {})
        for device in [0, 1]:
            self.do(net, ("make", inside("a"), "same", False), device=device)
            self.scan(net, device=device)
        talk(net)
        work_all(net)
        self.scan(net)
        # Both heads are joined, and a write replaces both.
        self.assertEqual(self.placed(net), [(("a",), ((1, 0), (1, 1)), True)])
        self.do(net, ("write", inside("a"), 0, "more"))
        self.scan(net)
        self.assertEqual(net.keepers[0].status()["placed"][0][6], ((2, 0),))
        self.assertEqual([line[1] for line in net.keepers[0].lines()], [(2, 0)])


class GoingBack(Case):
    def test_a_scan_while_something_goes_back(self):
        net = self.net(("make", inside("a"), "one", False), ("make_folder", inside("d")))
        self.scan(net)
        net.keepers[0].state.know.drop(1, ((2, 0),))
        # A folder is in the place of the file when it is taken, and its way back is occupied.
        self.do(net, ("rename", inside("a"), inside("z")), ("rename", inside("d"), inside("a")))
        self.assertEqual(net.step(0), (("take", ("a",), 0), ("done",)))
        net.step(0)
        self.assertEqual(net.keepers[0].status()["shelf"][0][5][0], "back")
        for tries in range(1, 5):
            net.refuse(0)
            net.step(0)
            self.assertEqual(net.keepers[0].status()["shelf"][0][5][3], tries)
        self.assertEqual(net.keepers[0].status()["late"], [("a",)])
        self.assertIsNone(net.step(0))
        # The wish lets it try again, and starts no scan.
        net.wish(0, ("scan",))
        status = net.keepers[0].status()
        self.assertEqual((status["stage"], status["late"]), ("idle", []))
        self.assertEqual(net.step(0)[0][0], "give")
        with self.assertRaises(NotNow):
            net.wish(0, ("scan",))
        work_all(net)
        self.assertEqual((net.keepers[0].status()["shelf"], sorted(files(net.hosts[0]))[1:]), ([], ["z"]))
        net.wish(0, ("scan",))
        self.assertEqual(net.keepers[0].status()["stage"], "scan")


if __name__ == "__main__":
    unittest.main()
