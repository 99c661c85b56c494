"""Point 1: keepers make the folders alike, whatever programs do on one device at a time."""

import random
import unittest

from foldkeep.marks import MOST_PIECE
from plays import Programs, are_alike, files, net_of, play_rounds, scan_all, shape, talk, texts_in, try_to, work_all

DEEDS = ("make", "make", "make", "make_folder", "rename", "rename", "write", "read", "remove", "remove_folder", "set_runs")
# What is told even by a host that does not tell how often names were changed.
DEEDS_WITHOUT_TURNS = ("make", "make", "make_folder", "read")
RULES = ({}, {"swaps": False}, {"reads": False}, {"cuts": False}, {"swaps": False, "reads": False, "cuts": False})


def inside(*path):
    return ("folder", path)


class Case(unittest.TestCase):
    def do(self, net, device, *deeds):
        for deed in deeds:
            net.program(device, deed)

    def alike(self, net, expected=None, rounds=30):
        self.assertIsNotNone(play_rounds(net, rounds), [files(host) for host in net.hosts])
        if expected is not None:
            self.assertEqual(files(net.hosts[0]), expected)


class Courses(Case):
    """Courses that are told step by step."""

    def nets(self):
        for many in [2, 3]:
            for rule in RULES:
                yield net_of(*[rule] * many)

    def test_files_and_folders_come_to_the_other_devices(self):
        for net in self.nets():
            self.do(net, 0, ("make", inside("a"), "one", True), ("make_folder", inside("d")),
                    ("make", inside("d", "b"), "two", False), ("make_folder", inside("e")), ("make", inside("z"), "", False))
            self.alike(net, {"a": "one", "d": None, "d/b": "two", "e": None, "z": ""})
            self.assertEqual([row[6] for row in net.hosts[1].tree()], [True, False, False, False, False])

    def test_what_one_device_after_the_other_does(self):
        for net in self.nets():
            last = len(net.hosts) - 1
            self.do(net, 0, ("make", inside("a"), "one", False), ("make", inside("b"), "two", False))
            self.alike(net)
            self.do(net, last, ("read", inside("a")), ("write", inside("a"), 0, "ONE"), ("remove", inside("b")))
            self.alike(net, {"a": "ONE"})
            self.do(net, 0, ("make_folder", inside("d")), ("rename", inside("a"), inside("d", "c")))
            self.alike(net, {"d": None, "d/c": "ONE"})
            self.do(net, last, ("rename", inside("d"), inside("e")), ("make", inside("e", "x"), "new", False))
            self.alike(net, {"e": None, "e/c": "ONE", "e/x": "new"})
            self.do(net, 1, ("set_runs", inside("e", "c"), True), ("rename", inside("e", "x"), inside("x")))
            self.alike(net, {"e": None, "e/c": "ONE", "x": "new"})
            self.do(net, 0, ("remove", inside("e", "c")), ("remove_folder", inside("e")), ("remove", inside("x")))
            self.alike(net, {})

    def test_a_file_is_replaced_by_another_one(self):
        for net in self.nets():
            self.do(net, 0, ("make", inside("a"), "one", False))
            self.alike(net)
            # A program of the device where it was made had the older text.
            self.do(net, 0, ("make", inside("t"), "two", False), ("rename", inside("t"), inside("a")))
            self.alike(net, {"a": "two"})
            # So had one that has read it.
            self.do(net, 1, ("read", inside("a")), ("remove", inside("a")), ("make", inside("a"), "three", False))
            self.alike(net, {"a": "three"})

    def test_who_had_not_the_older_text_does_not_replace_it(self):
        for rule in [{}, {"swaps": False}, {"cuts": False}]:
            net = net_of(rule, rule)
            self.do(net, 0, ("make", inside("a"), "one", False))
            self.alike(net)
            self.do(net, 1, ("remove", inside("a")), ("make", inside("a"), "two", False))
            self.alike(net, {"a": "one", "a (2-1)": "two"})

    def test_both_write_at_the_same_time(self):
        for net in self.nets():
            self.do(net, 0, ("make", inside("a"), "one", False))
            self.alike(net)
            for device, text in [(0, "left"), (1, "right")]:
                self.do(net, device, ("read", inside("a")), ("write", inside("a"), 0, text))
            scan_all(net)
            self.alike(net, {"a": "left", "a (2-1)": "right"})

    def test_one_removes_what_the_other_one_writes(self):
        net = net_of({}, {})
        self.do(net, 0, ("make", inside("a"), "one", False))
        self.alike(net)
        self.do(net, 0, ("remove", inside("a")))
        self.do(net, 1, ("write", inside("a"), 0, "two"))
        scan_all(net)
        self.alike(net, {"a": "two"})

    def test_both_make_the_same(self):
        net = net_of({}, {}, {})
        for device in range(3):
            self.do(net, device, ("make", inside("a"), "same", False), ("make_folder", inside("d")),
                    ("make", inside("d", "own"), f"of {device}", False))
        scan_all(net)
        self.alike(net, {"a": "same", "d": None, "d/own": "of 0", "d/own (3-1)": "of 1", "d/own (3-2)": "of 2"})

    def test_a_text_of_several_pieces(self):
        text = "".join(f"line {number}\n" for number in range(1500))
        self.assertGreater(len(text), 3 * MOST_PIECE)
        for net in [net_of({}, {}), net_of({}, {"swaps": False}, {})]:
            self.do(net, 0, ("make", inside("a"), text, True))
            self.alike(net, {"a": text})
            self.do(net, 1, ("read", inside("a")), ("write", inside("a"), 5000, "changed"))
            self.alike(net, {"a": text[:5000] + "changed" + text[5007:]})

    def test_texts_at_the_edges_of_pieces(self):
        for length in [0, 1, MOST_PIECE - 1, MOST_PIECE, MOST_PIECE + 1, 2 * MOST_PIECE]:
            net = net_of({}, {})
            self.do(net, 0, ("make", inside("a"), "x" * length, False))
            self.alike(net, {"a": "x" * length})

    def test_what_cannot_be_told_stays_where_it_is(self):
        net = net_of({"alike": ("Aa",)}, {"unfit": ("b",)}, ignores=["*.tmp"])
        self.do(net, 0, ("make", inside("x.tmp"), "t", False), ("make_other", inside("o")), ("make", inside("a"), "one", False))
        self.do(net, 1, ("make", inside("A"), "two", False))
        play_rounds(net, 6, 99)
        self.assertEqual(files(net.hosts[0]), {"A (1-1)": "two", "a": "one", "o": None, "x.tmp": "t"})
        self.assertEqual(files(net.hosts[1]), {"A": "two", "a": "one"})
        self.do(net, 0, ("make", inside("b"), "bee", False))
        play_rounds(net, 6, 99)
        self.assertEqual(files(net.hosts[0])["b"], "bee")
        self.assertEqual(files(net.hosts[1]), {"A": "two", "a": "one", "b (2-0)": "bee"})

    def test_nothing_happens_any_more_when_all_is_alike(self):
        net = net_of({}, {}, {})
        self.do(net, 0, ("make", inside("a"), "one", False), ("make_folder", inside("d")))
        self.alike(net)
        hosts = [shape(host) for host in net.hosts]
        turned = [host.turned for host in net.hosts]
        clocks = [keeper.status()["clock"] for keeper in net.keepers]
        for _ in range(3):
            scan_all(net)
            talk(net)
            work_all(net)
        self.assertEqual([shape(host) for host in net.hosts], hosts)
        self.assertEqual([host.turned for host in net.hosts], turned)
        self.assertEqual([keeper.status()["clock"] for keeper in net.keepers], clocks)

    def test_what_all_know_is_forgotten(self):
        net = net_of({}, {})
        self.do(net, 0, ("make", inside("a"), "one", False), ("make", inside("b"), "two", False))
        self.alike(net)
        for keeper in net.keepers:
            self.assertEqual((keeper.state.know.rest, keeper.status()["upto"]), ([], 2))


class PutAway(Case):
    def net(self, many=2):
        net = net_of(*[{}] * many)
        self.do(net, 0, ("make", inside("a"), "one", False), ("make", inside("b"), "two", False))
        self.alike(net)
        return net

    def rounds(self, net, many=4):
        for _ in range(many):
            work_all(net)
            scan_all(net)
            talk(net)
            work_all(net)

    def test_a_file_is_put_away_and_fetched(self):
        net = self.net()
        net.wish(0, ("put_away", ("a",), 1))
        self.rounds(net)
        self.assertEqual((files(net.hosts[0]), files(net.hosts[1])), ({"b": "two"}, {"a": "one", "b": "two"}))
        self.assertEqual([entry[1:] for entry in net.keepers[0].status()["away"]], [(0, 1)])
        # The text can be dropped here, as another device holds it.
        net.wish(0, ("trim", 0))
        work_all(net)
        self.assertEqual(net.hosts[0].shelf(), [])
        net.wish(0, ("fetch", ("a",)))
        self.rounds(net)
        self.assertEqual(files(net.hosts[0]), {"a": "one", "b": "two"})
        self.assertEqual((net.keepers[0].status()["away"], net.keepers[1].status()["holding"]), ([], []))

    def test_what_is_held_outlives_the_file_of_the_holder(self):
        net = self.net()
        net.wish(0, ("put_away", ("a",), 1))
        self.rounds(net)
        net.wish(0, ("trim", 0))
        work_all(net)
        net.wish(1, ("trim", 0))
        work_all(net)
        self.do(net, 1, ("write", inside("b"), 0, "TWO"))
        self.rounds(net)
        net.wish(0, ("fetch", ("a",)))
        self.rounds(net)
        self.assertEqual(files(net.hosts[0]), {"a": "one", "b": "TWO"})

    def test_a_file_that_is_put_away_is_changed_elsewhere(self):
        net = self.net(3)
        net.wish(0, ("put_away", ("a",), 1))
        self.rounds(net)
        self.do(net, 2, ("write", inside("a"), 0, "new"))
        self.rounds(net)
        # The new text is another head, which is not put away.
        self.assertEqual([files(host) for host in net.hosts], [{"a": "new", "b": "two"}] * 3)
        self.assertEqual([keeper.status()["holding"] for keeper in net.keepers], [[], [], []])

    def test_what_was_replaced_is_restored(self):
        net = self.net()
        self.do(net, 1, ("read", inside("a")), ("write", inside("a"), 0, "new"))
        self.alike(net, {"a": "new", "b": "two"})
        place = [row[0] for row in net.keepers[0].status()["shelf"] if row[5][0] == "kept"][0]
        net.wish(0, ("restore", place, ("old", "a")))
        self.alike(net, {"a": "new", "b": "two", "old": None, "old/a": "one"})


class Random(Case):
    """Deeds at random, on one device at a time."""

    def play(self, seed, many, rule, kinds):
        source = random.Random(seed)
        net = net_of(*[rule] * many)
        programs = Programs(source)
        for _ in range(4):
            device = source.randrange(many)
            for _ in range(source.randrange(1, 6)):
                try_to(net.program, device, programs.deed(net.hosts[device], kinds))
            self.alike(net)
            lines = [keeper.lines() for keeper in net.keepers]
            self.assertEqual(lines, [lines[0]] * many)
            for keeper in net.keepers:
                status = keeper.status()
                self.assertEqual((status["stage"], status["late"]), ("idle", []))
                self.assertEqual(
                    sorted((row[0], str(row[5])) for row in status["placed"]),
                    sorted((entry[0], str(entry[2])) for entry in keeper.wanted()))

    def test_two_devices(self):
        for seed in range(60):
            with self.subTest(seed=seed):
                self.play(seed, 2, RULES[seed % len(RULES)], DEEDS)

    def test_three_devices(self):
        for seed in range(40):
            with self.subTest(seed=seed):
                self.play(seed, 3, RULES[seed % len(RULES)], DEEDS)

    def test_hosts_that_do_not_tell_how_often_names_were_changed(self):
        for seed in range(30):
            with self.subTest(seed=seed):
                self.play(seed, 2 + seed % 2, {"turns": False, **RULES[seed % len(RULES)]}, DEEDS_WITHOUT_TURNS)

    def test_rules_that_differ(self):
        for seed in range(30):
            with self.subTest(seed=seed):
                source = random.Random(seed)
                net = net_of(RULES[seed % 5], RULES[(seed + 1) % 5], RULES[(seed + 3) % 5])
                programs = Programs(source)
                for _ in range(3):
                    device = source.randrange(3)
                    for _ in range(source.randrange(1, 6)):
                        try_to(net.program, device, programs.deed(net.hosts[device], DEEDS))
                    self.alike(net)
                self.assertTrue(are_alike(net))

    def test_no_text_is_left_out(self):
        for seed in range(20):
            net = net_of({}, {})
            programs = Programs(random.Random(seed))
            for _ in range(6):
                try_to(net.program, 0, programs.deed(net.hosts[0], ("make", "make_folder")))
            before = texts_in(net)
            self.alike(net)
            self.assertEqual({text for text in files(net.hosts[1]).values() if text is not None}, before)


if __name__ == "__main__":
    unittest.main()
