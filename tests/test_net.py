"""Points 131 and 132: nets."""

import unittest

from foldkeep.errors import NoSuchDevice, NoSuchLetter, NotNow, NotPossible
from foldkeep.hosts import Host
from foldkeep.keeper import Keeper
from foldkeep.names import Rule
from foldkeep.net import Net
from foldkeep.scanning import scan_copy
from keeps import looks_of, mark
from looks import whole

A = ("folder", ("a.txt",))
B = ("folder", ("b.txt",))
HEAD = (1, 0)


def looks(net):
    """All that a net is, as plain values."""
    keepers = []
    for keeper in net.keepers:
        told = looks_of(keeper.state)
        scan = keeper.state.scan
        told["scan"] = None if scan is None else {**vars(scan_copy(scan)), "found": [
            tuple(vars(found).values()) for found in scan.found]}
        keepers.append(told)
    return ([whole(host) for host in net.hosts], keepers, list(net.letters))


def a_net(many=2, **rule):
    return Net([Rule(**rule) for _ in range(many)])


def a_net_with_a_file(many=2):
    """A net in which device 0 has a file that it knows."""
    net = a_net(many)
    net.program(0, ("make", A, "one", False))
    net.wish(0, ("scan",))
    net.work(0, 100)
    return net


class Case(unittest.TestCase):
    def raises(self, error, net, name, *arguments):
        """Checks that the method raises just this error and that nothing has changed then."""
        before = looks(net)
        with self.assertRaises(error, msg=str((name, arguments))) as caught:
            getattr(net, name)(*arguments)
        self.assertIs(type(caught.exception), error)
        self.assertEqual(looks(net), before)

    def changes_only(self, net, before, *, hosts=(), keepers=(), letters=False):
        """Checks that only these hosts and keepers, and the letters if so, are others than before."""
        after = looks(net)
        for device in range(len(net.hosts)):
            self.assertEqual(after[0][device] != before[0][device], device in hosts, device)
            self.assertEqual(after[1][device] != before[1][device], device in keepers, device)
        self.assertEqual(after[2] != before[2], letters)


class New(Case):
    def test_a_device_for_each_rule(self):
        rules = [Rule(), Rule(swaps=False), Rule(longest=50)]
        net = Net(rules, ["*.tmp", "x"])
        self.assertEqual(([len(net.hosts), len(net.keepers)], net.letters), ([3, 3], []))
        for device, rule in enumerate(rules):
            self.assertIsInstance(net.hosts[device], Host)
            self.assertIsInstance(net.keepers[device], Keeper)
            self.assertIs(net.hosts[device].rule, rule)
            state = net.keepers[device].state
            self.assertEqual((state.me, state.devices, state.ignores), (device, [0, 1, 2], ("*.tmp", "x")))
            self.assertIs(state.rule, rule)
            self.assertEqual((net.hosts[device].tree(), net.hosts[device].outside(), net.hosts[device].shelf()), ([], [], []))
            self.assertIs(net.host_of(device), net.hosts[device])
            self.assertIs(net.keeper_of(device), net.keepers[device])

    def test_without_patterns_and_without_devices(self):
        self.assertEqual(Net([Rule()]).keepers[0].state.ignores, ())
        net = Net([])
        self.assertEqual((net.hosts, net.keepers, net.letters), ([], [], []))
        self.assertEqual(net.post(3), 0)

    def test_nothing_happens_by_itself(self):
        net = a_net()
        net.program(0, ("make", A, "one", False))
        self.assertEqual((net.keepers[0].lines(), net.letters), ([], []))


class NoDevice(Case):
    """Each method refuses a device that there is not, ahead of everything else."""

    def test_each_method(self):
        net = a_net_with_a_file()
        for device in [2, 3, 99, -1]:
            for name, *more in [
                ("program", ("cut", 7)), ("program", ("make", B, "x", False)), ("step",), ("refuse",), ("unanswered",),
                ("crash",), ("speak", 0), ("speak", 1), ("speak", device), ("wish", ("scan",)), ("wish", ("fetch", ("q",))),
                ("work", 5), ("work", 0), ("host_of",), ("keeper_of",),
            ]:
                self.raises(NoSuchDevice, net, name, device, *more)
            self.raises(NoSuchDevice, net, "speak", 0, device)

    def test_a_holder_that_there_is_not_is_no_such_device_only_for_the_keeper(self):
        net = a_net_with_a_file()
        self.raises(NotNow, net, "wish", 0, ("put_away", ("a.txt",), 2))


class Programs(Case):
    def test_a_deed_is_done_on_the_device(self):
        net = a_net()
        before = looks(net)
        self.assertIsNone(net.program(1, ("make", A, "one", False)))
        self.changes_only(net, before, hosts=[1])
        self.assertEqual(net.hosts[1].tree()[0][5], "one")

    def test_a_deed_that_cannot_be_done(self):
        net = a_net_with_a_file()
        for deed in [("cut", 7), ("make", A, "x", False), ("close", 1), ("remove", B), ("rename", A, ("folder", ()))]:
            self.raises(NotPossible, net, "program", 0, deed)


class Steps(Case):
    def test_it_asks_for_nothing(self):
        net = a_net()
        before = looks(net)
        self.assertIsNone(net.step(0))
        self.changes_only(net, before)

    def test_a_keeper_that_asks_for_nothing_may_change_all_the_same(self):
        net = a_net_with_a_file()
        net.keepers[0].state.requests.append((1, (9, 9), 0))
        before = looks(net)
        self.assertIsNone(net.step(0))
        self.assertEqual(net.keepers[0].state.requests, [])
        self.changes_only(net, before, keepers=[0])

    def test_the_host_does_it_and_the_keeper_takes_the_answer(self):
        net = a_net()
        net.program(0, ("make", A, "one", False))
        net.wish(0, ("scan",))
        self.assertEqual([net.step(0) for _ in range(6)], [
            (("total",), ("total", 1)), (("names", ()), ("names", [("a.txt", 1, "file", 0, 0)])), (("total",), ("total", 1)),
            (("read", ("a.txt",)), ("text", 1, 0, 0, "one", False)), (("shelf",), ("shelf", [])), None])
        self.assertEqual(net.keepers[0].lines(), [(HEAD, HEAD, None, ("a.txt",), mark("one"), ("a.txt",))])

    def test_what_is_said_then_is_added_to_the_letters(self):
        net = a_net_with_a_file(3)
        net.letters.append((1, 2, ("free", 0)))
        net.keepers[0].hear(2, ("ask", HEAD, 1))
        before = looks(net)
        self.assertEqual(net.step(0), (("read", ("a.txt",)), ("text", 1, 0, 0, "one", False)))
        self.assertEqual(net.letters, [(1, 2, ("free", 0)), (0, 2, ("piece", HEAD, 1, "ne"))])
        self.changes_only(net, before, keepers=[0], letters=True)

    def test_a_change(self):
        net = a_net_with_a_file()
        net.keepers[0].state.know.drop(1, (HEAD,))
        self.assertEqual(net.step(0), (("take", ("a.txt",), 0), ("done",)))
        self.assertEqual((net.hosts[0].tree(), net.hosts[0].shelf()[0][0]), ([], 0))
        self.assertEqual(net.step(0)[0], ("shelf",))
        self.assertIsNone(net.step(0))


class Refusals(Case):
    def test_nothing_is_asked_for(self):
        net = a_net_with_a_file()
        net.keepers[0].state.requests.append((1, (9, 9), 0))
        net.keepers[0].state.stage = ("asking", 3)
        # The keeper is as it was before, though it would change by being asked.
        for device in [0, 1]:
            self.raises(NotNow, net, "refuse", device)
            self.raises(NotNow, net, "unanswered", device)
        self.assertEqual(net.keepers[0].state.requests, [(1, (9, 9), 0)])

    def test_the_host_does_nothing(self):
        net = a_net_with_a_file()
        net.keepers[0].state.know.drop(1, (HEAD,))
        before = looks(net)
        self.assertIsNone(net.refuse(0))
        self.changes_only(net, before, keepers=[0])
        self.assertEqual(net.keepers[0].state.pending[0], ("take", ("a.txt",), 0))
        self.assertEqual(net.step(0), (("shelf",), ("shelf", [])))
        self.assertEqual((net.keepers[0].state.late, net.step(0)), ([("a.txt",)], None))

    def test_a_refused_total_ends_the_scan(self):
        net = a_net_with_a_file()
        before = looks(net)
        net.wish(0, ("scan",))
        net.refuse(0)
        self.changes_only(net, before)

    def test_what_is_said_after_a_refusal(self):
        net = a_net_with_a_file()
        net.keepers[0].hear(1, ("ask", HEAD, 0))
        net.refuse(0)
        self.assertEqual((net.letters, net.keepers[0].state.requests), ([], []))

    def test_a_lost_answer(self):
        net = a_net_with_a_file()
        net.keepers[0].state.know.drop(1, (HEAD,))
        before = looks(net)
        self.assertIsNone(net.unanswered(0))
        self.changes_only(net, before, hosts=[0], keepers=[0])
        self.assertEqual((net.hosts[0].tree(), net.keepers[0].state.stage), ([], ("look",)))
        self.assertEqual(net.keepers[0].state.pending[0], ("take", ("a.txt",), 0))
        net.step(0)
        self.assertEqual([entry.purpose[0] for entry in net.keepers[0].state.shelf], ["kept"])

    def test_a_lost_answer_to_a_question(self):
        net = a_net_with_a_file()
        before = looks(net)
        net.wish(0, ("scan",))
        net.unanswered(0)
        self.changes_only(net, before)
        net.keepers[0].hear(1, ("ask", HEAD, 0))
        net.unanswered(0)
        self.assertEqual((net.letters, net.keepers[0].state.requests), ([], [(1, HEAD, 0)]))


class Crashes(Case):
    def test_a_crash(self):
        net = a_net_with_a_file()
        before = looks(net)
        net.wish(0, ("scan",))
        net.step(0)
        self.assertIsNone(net.crash(0))
        self.changes_only(net, before)


class Letters(Case):
    def test_speaking(self):
        net = a_net_with_a_file(3)
        net.letters.append((1, 2, ("free", 0)))
        before = looks(net)
        self.assertIsNone(net.speak(0, 2))
        self.changes_only(net, before, letters=True)
        self.assertEqual(net.letters, [(1, 2, ("free", 0))] + [(0, 2, word) for word in net.keepers[0].speak(2)])
        self.assertEqual(net.letters[1][2][:2], ("news", 1))

    def test_nobody_speaks_to_itself(self):
        net = a_net(3)
        for device in [0, 1, 2]:
            self.raises(NotNow, net, "speak", device, device)

    def net(self):
        net = a_net_with_a_file(3)
        net.letters.extend([(2, 1, ("free", 0)), (0, 1, net.keepers[0].speak(1)[0]), (2, 0, ("ask", HEAD, 0))])
        return net

    def test_a_letter_that_there_is_not(self):
        for net, places in [(self.net(), [3, 4, 100, -1]), (a_net(), [0, 1])]:
            for place in places:
                for name in ["deliver", "lose", "again"]:
                    self.raises(NoSuchLetter, net, name, place)

    def test_it_is_delivered(self):
        net = self.net()
        letters = list(net.letters)
        before = looks(net)
        self.assertIsNone(net.deliver(1))
        self.changes_only(net, before, keepers=[1], letters=True)
        self.assertEqual(net.letters, [letters[0], letters[2]])
        self.assertEqual(net.keepers[1].state.heard, [(0, ((0, 1), (1, 0), (2, 0)))])
        net.deliver(1)
        self.assertEqual(net.keepers[0].state.requests, [(2, HEAD, 0)])

    def test_what_the_receiver_says_then_is_added(self):
        net = a_net(3)
        net.keepers[1].state.next_number = 4
        net.letters.extend([(2, 1, ("held", 3)), (0, 2, ("free", 0))])
        net.deliver(0)
        self.assertEqual(net.letters, [(0, 2, ("free", 0)), (1, 2, ("free", 3))])

    def test_it_is_lost(self):
        net = self.net()
        letters = list(net.letters)
        before = looks(net)
        self.assertIsNone(net.lose(1))
        self.changes_only(net, before, letters=True)
        self.assertEqual(net.letters, [letters[0], letters[2]])

    def test_it_is_doubled(self):
        net = self.net()
        letters = list(net.letters)
        before = looks(net)
        self.assertIsNone(net.again(1))
        self.changes_only(net, before, letters=True)
        self.assertEqual(net.letters, [*letters, letters[1]])

    def test_out_of_order(self):
        net = a_net_with_a_file()
        net.speak(0, 1)
        net.program(0, ("make", B, "two", False))
        net.wish(0, ("scan",))
        net.work(0, 100)
        net.speak(0, 1)
        net.again(0)
        for place in [1, 1, 0]:
            net.deliver(place)
            self.assertEqual([line[5] for line in net.keepers[1].lines()], [("a.txt",), ("b.txt",)])


class Wishes(Case):
    def test_a_wish(self):
        net = a_net()
        before = looks(net)
        self.assertIsNone(net.wish(1, ("scan",)))
        self.changes_only(net, before, keepers=[1])
        self.raises(NotNow, net, "wish", 1, ("scan",))
        self.raises(NotNow, net, "wish", 0, ("fetch", ("a.txt",)))


class Work(Case):
    def test_up_to_and_including_the_first_step_that_asks_for_nothing(self):
        for most, made, stage in [(0, 0, "scan"), (1, 1, "scan"), (4, 4, "look"), (5, 5, "idle"), (6, 6, "idle"), (7, 6, "idle"),
                                  (1000, 6, "idle")]:
            net = a_net()
            net.program(0, ("make", A, "one", False))
            net.wish(0, ("scan",))
            self.assertEqual(net.work(0, most), made)
            self.assertEqual(net.keepers[0].state.stage[0], stage)

    def test_nothing_to_be_done(self):
        net = a_net()
        self.assertEqual([net.work(1, most) for most in [0, 1, 2]], [0, 1, 1])

    def test_it_is_the_same_as_steps(self):
        net = a_net_with_a_file()
        net.keepers[0].state.know.drop(1, (HEAD,))
        other = net.fork()
        self.assertEqual(net.work(0, 2), 2)
        other.step(0)
        other.step(0)
        self.assertEqual(looks(net), looks(other))


class Post(Case):
    def test_the_first_letter_each_time(self):
        for most, delivered in [(0, 0), (1, 1), (2, 2), (3, 2), (100, 2)]:
            net = a_net_with_a_file(3)
            net.letters.extend([(1, 0, ("ask", HEAD, 0)), (2, 0, ("ask", HEAD, 0))])
            self.assertEqual(net.post(most), delivered)
            self.assertEqual(net.keepers[0].state.requests, [(1, HEAD, 0), (2, HEAD, 0)][:delivered])
            self.assertEqual(len(net.letters), 2 - delivered)

    def test_no_letters(self):
        self.assertEqual([a_net().post(most) for most in [0, 1, 5]], [0, 0, 0])

    def test_what_is_said_on_the_way_is_delivered_too(self):
        net = a_net()
        net.keepers[1].state.next_number = 4
        net.keepers[0].state.holding = [(1, 3, HEAD, 0)]
        net.letters.append((0, 1, ("held", 3)))
        self.assertEqual(net.post(10), 2)
        self.assertEqual((net.letters, net.keepers[0].state.holding), ([], []))
        net.letters.append((0, 1, ("held", 3)))
        self.assertEqual(net.post(1), 1)
        self.assertEqual(net.letters, [(1, 0, ("free", 3))])


class Forks(Case):
    def net(self):
        net = a_net_with_a_file(3)
        net.program(1, ("make", B, "two", True))
        net.program(1, ("open", B))
        net.speak(0, 1)
        net.speak(0, 2)
        net.post(1)
        net.wish(1, ("scan",))
        net.work(1, 3)
        return net

    def test_a_fork_is_equal(self):
        net = self.net()
        fork = net.fork()
        self.assertIsInstance(fork, Net)
        self.assertEqual(looks(fork), looks(net))

    def test_what_happens_in_one_does_not_change_the_other_one_in_both_directions(self):
        for first, second in [(0, 1), (1, 0)]:
            net = self.net()
            pair = [net, net.fork()]
            before = looks(pair[second])
            one = pair[first]
            one.program(0, ("write", A, 0, "new"))
            one.program(1, ("remove", B))
            one.post(10)
            for device in [0, 1, 2]:
                one.work(device, 50)
                one.crash(device)
                one.wish(device, ("scan",))
                one.work(device, 50)
                one.speak(device, (device + 1) % 3)
            one.letters.clear()
            self.assertEqual(looks(pair[second]), before)
            one.hosts.clear()
            one.keepers.clear()
            self.assertEqual(looks(pair[second]), before)

    def test_both_go_on_alike(self):
        net = self.net()
        fork = net.fork()
        for device in [0, 1, 2, 1, 0]:
            self.assertEqual(net.work(device, 20), fork.work(device, 20))
            self.assertEqual(net.post(2), fork.post(2))
            self.assertEqual(looks(fork), looks(net))


class Examples(unittest.TestCase):
    """The examples that the document prints for this file."""

    def test_a_scan(self):
        net = Net([Rule(), Rule()])
        net.program(0, ("make", ("folder", ("a.txt",)), "one", False))
        net.wish(0, ("scan",))
        self.assertEqual(net.work(0, 100), 6)

    def test_nothing_to_refuse(self):
        with self.assertRaises(NotNow):
            Net([Rule()]).refuse(0)


if __name__ == "__main__":
    unittest.main()
