"""Point 2: no keeper overwrites or deletes a text, whatever is refused, lost, doubled, or forgotten by a crash."""

import random
import unittest

from foldkeep.errors import NotNow
from foldkeep.keeper import keeper_copy, load_keeper
from plays import (
    Programs, Watch, files, net_of, play_rounds, scan_all, shape, talk, texts_by_thing, texts_in, try_to, work_all,
)

DEEDS = ("make", "make", "make", "make_folder", "make_other", "rename", "rename", "rename_out", "rename_in", "write", "write",
         "write_open", "cut", "read", "open", "open", "close", "remove", "remove_folder", "set_runs")
RULES = ({}, {"swaps": False}, {"reads": False}, {"cuts": False}, {"turns": False}, {"swaps": False, "reads": False},
         {"alike": ("Aa", "Bb"), "unfit": ("b",)})


def inside(*path):
    return ("folder", path)


class Faults(unittest.TestCase):
    """One course again and again, in which something else goes wrong at each step in its turn."""

    RULE = {}

    def net(self):
        """Device 0 is to take a file out, to give one, to swap one, to remove a folder and to make another one."""
        net = net_of(self.RULE, self.RULE)
        for deed in [("make", inside("a"), "old", False), ("make_folder", inside("c")), ("make", inside("c", "b"), "one", False)]:
            net.program(0, deed)
        assert play_rounds(net) is not None
        for deed in [("rename", inside("c"), inside("d")), ("make_folder", inside("e")), ("read", inside("a")),
                     ("write", inside("a"), 0, "RIGHT"), ("make", inside("n"), "new", False)]:
            net.program(1, deed)
        net.wish(1, ("scan",))
        work_all(net)
        talk(net)
        return net

    def operations(self):
        """What device 0 asks for in the course, without faults."""
        net = self.net()
        asked = []
        for _ in range(200):
            made = net.step(0)
            if made is None:
                talk(net)
                work_all(net)
                talk(net)
                made = net.step(0)
                if made is None:
                    return asked
            asked.append(made[0][0])
        self.fail("the course does not end")

    def play(self, number, fault):
        """Plays the course with this fault at the step with this number."""
        net = self.net()
        watch = Watch(net)
        for text in texts_in(net):
            watch.left.add(text)
        made = 0
        for _ in range(12):
            for _ in range(200):
                if made == number:
                    fault(net, watch)
                made += 1
                if net.step(0) is None:
                    break
            self.assertEqual(watch.lost(), set())
            talk(net)
            net.work(1, 500)
            talk(net)
            if made > number:
                break
        self.assertGreater(made, number)
        self.assertIsNotNone(play_rounds(net), [files(host) for host in net.hosts])
        self.assertEqual(watch.lost(), set())
        return net

    def test_the_course_has_changes_of_all_kinds(self):
        asked = set(self.operations())
        expected = {"take", "give", "remove_folder", "make_folder", "stage", "shelf", "read_shelf"}
        self.assertLessEqual(expected | ({"swap"} if self.RULE.get("swaps", True) else set()), asked)

    def each_step(self, fault, expected):
        for number in range(len(self.operations())):
            with self.subTest(number=number):
                net = self.play(number, fault)
                self.assertEqual(files(net.hosts[0]), expected)

    AFTER = {"d": None, "d/b": "one", "e": None, "a": "RIGHT", "n": "new"}

    def test_a_refusal(self):
        self.each_step(lambda net, watch: try_to(net.refuse, 0), self.AFTER)

    def test_an_answer_that_is_lost(self):
        self.each_step(lambda net, watch: try_to(net.unanswered, 0), self.AFTER)

    def test_a_crash(self):
        self.each_step(lambda net, watch: net.crash(0), self.AFTER)

    def test_a_crash_after_it_was_asked(self):
        def fault(net, watch):
            net.keepers[0].want()
            net.crash(0)
        self.each_step(fault, self.AFTER)

    def test_a_keeper_that_is_saved_and_loaded(self):
        def fault(net, watch):
            net.keepers[0] = load_keeper(net.keepers[0].save())
        self.each_step(fault, self.AFTER)

    def programs(self, check, *deeds):
        """Checks the end of the course in which programs do these deeds ahead of a step, for each step in its turn."""
        for number in range(len(self.operations())):
            with self.subTest(number=number):
                def fault(net, watch):
                    for deed in deeds:
                        watch.program(0, deed)
                net = self.play(number, fault)
                check(net, set(files(net.hosts[0]).values()))
                self.assertEqual(shape(net.hosts[0]), shape(net.hosts[1]))

    def is_shown(self, net, shown):
        """What the program has left, if it could leave anything, is in the folder."""
        if "MINE!" in texts_in(net):
            self.assertIn("MINE!", shown)

    def test_a_program_writes_into_a_file(self):
        self.programs(self.is_shown, ("write", inside("a"), 0, "MINE!"))

    def test_a_program_makes_a_file_where_one_is_to_come(self):
        def check(net, shown):
            self.is_shown(net, shown)
            self.assertIn("new", shown)
        self.programs(check, ("make", inside("n"), "MINE!", False))

    def test_a_program_puts_another_file_in_the_place(self):
        self.programs(self.is_shown, ("make", inside("t"), "MINE!", False), ("rename", inside("t"), inside("a")))

    def test_a_program_puts_a_folder_in_the_place(self):
        def check(net, shown):
            self.is_shown(net, shown)
            self.assertIn("RIGHT", shown)
        self.programs(check, ("rename", inside("a"), inside("z")), ("make_folder", inside("a")),
                      ("make", inside("a", "x"), "MINE!", False))

    def test_a_program_makes_a_file_in_a_folder_that_is_to_go(self):
        self.programs(self.is_shown, ("make", inside("c", "x"), "MINE!", False))

    def test_a_program_that_holds_a_file_open_writes_late(self):
        for number in range(len(self.operations())):
            with self.subTest(number=number):
                def fault(net, watch):
                    watch.program(0, ("write", 1, 0, "LATE"))
                net = self.net()
                if net.hosts[0].tree()[0][2] == 1:
                    net.program(0, ("open", inside("a")))
                self.net = lambda: net
                try:
                    played = self.play(number, fault)
                finally:
                    del self.net
                self.assertIn("LATE", texts_in(played))


class FaultsWithoutSwaps(Faults):
    RULE = {"swaps": False, "reads": False}


class Random(unittest.TestCase):
    """Courses at random, with all that can happen."""

    def play(self, seed, many, steps=160):
        source = random.Random(seed)
        net = net_of(*[source.choice(RULES) for _ in range(many)], ignores=["*.tmp"])
        watch = Watch(net)
        programs = Programs(source)
        for _ in range(steps):
            self.happen(net, watch, programs, source)
            self.assertEqual(watch.lost(), set())
        for host in net.hosts:
            while host.opened:
                host.program(("close", host.opened[0]))
        play_rounds(net, 8, 8)
        self.assertEqual(watch.lost(), set())
        return net, watch

    def happen(self, net, watch, programs, source):
        device = source.randrange(len(net.hosts))
        other = source.randrange(len(net.hosts))
        place = source.randrange(max(1, len(net.letters)))
        kind = source.randrange(100)
        if kind < 22:
            watch.program(device, programs.deed(net.hosts[device], DEEDS))
        elif kind < 60:
            net.step(device)
        elif kind < 63:
            try_to(net.refuse, device)
        elif kind < 67:
            try_to(net.unanswered, device)
        elif kind < 69:
            net.crash(device)
        elif kind < 78:
            try_to(net.wish, device, ("scan",))
        elif kind < 85:
            try_to(net.speak, device, other)
        elif kind < 92:
            try_to(net.deliver, place)
        elif kind < 94:
            try_to(net.lose, place)
        elif kind < 96:
            try_to(net.again, place)
        elif kind == 96:
            self.wish(net, device, other, source)
        elif kind == 97:
            self.save_and_load(net, device)
        else:
            net.work(device, 20)

    def wish(self, net, device, other, source):
        status = net.keepers[device].status()
        paths = [row[0] for row in status["placed"]] + [("a",)]
        places = [row[0] for row in status["shelf"]] + [0]
        path = source.choice(paths)
        wished = source.choice([("put_away", path, other), ("fetch", path), ("restore", source.choice(places), path)])
        try_to(net.wish, device, wished)

    def save_and_load(self, net, device):
        text = net.keepers[device].save()
        crashed = keeper_copy(net.keepers[device])
        crashed.crash()
        net.keepers[device] = load_keeper(text)
        self.assertEqual(net.keepers[device].status(), crashed.status())
        self.assertEqual(net.keepers[device].save(), text)

    def test_two_devices(self):
        for seed in range(100):
            with self.subTest(seed=seed):
                self.play(seed, 2)

    def test_three_devices(self):
        for seed in range(100, 160):
            with self.subTest(seed=seed):
                self.play(seed, 3)

    def test_something_is_left(self):
        # The courses would tell nothing if programs had always removed what they made.
        left = [len(self.play(seed, 2)[1].left) for seed in range(20)]
        self.assertGreater(sum(left), 20)


class Words(unittest.TestCase):
    """Words that are lost, doubled and out of order."""

    def play(self, seed):
        source = random.Random(seed)
        net = net_of({}, {"swaps": False}, {})
        watch = Watch(net)
        texts = []
        for number in range(3):
            for device in range(3):
                text = f"text {number} of {device};" + "x" * source.choice([0, 10, 5000])
                texts.append(text)
                watch.program(device, ("make", inside(f"f{source.randrange(4)}"), text, False))
                try_to(net.wish, device, ("scan",))
                net.work(device, 100)
            for _ in range(40):
                kind = source.randrange(5)
                place = source.randrange(max(1, len(net.letters)))
                if kind == 0:
                    try_to(net.speak, source.randrange(3), source.randrange(3))
                elif kind < 3:
                    try_to(net.deliver, place)
                    net.work(source.randrange(3), 30)
                else:
                    try_to(net.lose if kind == 3 else net.again, place)
            self.assertEqual(watch.lost(), set())
        rounds = play_rounds(net, 40, 10)
        self.assertIsNotNone(rounds, [files(host) for host in net.hosts])
        self.assertEqual(watch.lost(), set())
        # What no program has removed is shown on each device.
        for host in net.hosts:
            self.assertLessEqual(watch.left, set(texts_by_thing(host).values()))
            self.assertEqual({text for text in files(host).values()}, watch.left)

    def test_courses(self):
        for seed in range(40):
            with self.subTest(seed=seed):
                self.play(seed)

    def test_old_words_that_come_late(self):
        net = net_of({}, {})
        for number in range(4):
            net.program(0, ("make", inside(f"f{number}"), f"text {number}", False))
            scan_all(net)
            net.speak(0, 1)
            net.speak(1, 0)
        while net.letters:
            net.again(len(net.letters) - 1)
            net.deliver(len(net.letters) - 1)
            net.deliver(len(net.letters) - 1)
        self.assertIsNotNone(play_rounds(net))
        self.assertEqual(files(net.hosts[1]), {f"f{number}": f"text {number}" for number in range(4)})


class Trims(unittest.TestCase):
    def test_only_what_is_spare_is_dropped(self):
        for seed in range(20):
            source = random.Random(seed)
            net = net_of({}, {})
            programs = Programs(source)
            for _ in range(4):
                for device in [0, 1]:
                    for _ in range(3):
                        try_to(net.program, device, programs.deed(net.hosts[device], ("make", "make", "make_folder", "rename", "write", "read")))
                    try:
                        net.wish(device, ("scan",))
                    except NotNow:
                        pass
                    net.work(device, 100)
                    net.wish(device, ("trim", source.randrange(3)))
                talk(net)
                work_all(net)
            self.assertIsNotNone(play_rounds(net))
            for device in [0, 1]:
                net.wish(device, ("trim", 0))
            work_all(net)
            before = [shape(host) for host in net.hosts]
            self.assertIsNotNone(play_rounds(net))
            self.assertEqual([shape(host) for host in net.hosts], before)
            for keeper in net.keepers:
                wanted = {entry[2] for entry in keeper.wanted()}
                self.assertEqual(wanted, {row[5] for row in keeper.status()["placed"]})


if __name__ == "__main__":
    unittest.main()
