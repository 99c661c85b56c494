"""Points 119 to 121: the text of a keeper."""

import unittest

from foldkeep.errors import NoKeeper
from foldkeep.keeper import Keeper, keeper_copy, load_keeper
from foldkeep.knowing import Knowledge
from foldkeep.names import Rule
from foldkeep.net import Net
from foldkeep.saved import load_text, pack_state, save_text
from foldkeep.state import KeeperState, Placed, Shelved
from keeps import LISTS, a_line, looks_of, mark, scan_of

RULE = Rule(alike=("Aa", "Bb"), unfit=("con", "x y"), longest=60, swaps=False, reads=True, cuts=False, turns=True)
RULE_CODES = [2, 65, 97, 66, 98, 2, 3, 99, 111, 110, 3, 120, 32, 121, 60, 0, 1, 0, 1]
WAS = Placed(("a",), ("b",), 4, 5, 6, (3, 10, 20, True), ((1, 2),), (1, 2), True)
WAS_CODES = [1, 1, 97, 1, 1, 98, 4, 5, 6, 1, 3, 10, 20, 1, 1, 1, 2, 1, 1, 2, 1]
CHANGE = (("give", 7, ("a",)), ("b",), ((1, 2),), (1, 2), (3, 10, 20, True))
CHANGE_CODES = [1, 8, 7, 1, 1, 97, 1, 1, 98, 1, 1, 2, 1, 1, 2, 1, 3, 10, 20, 1]

# Each thing that is written, in order: the argument of the state, what it is, and its integers.
THINGS = [
    ("heard", [(0, ((0, 3), (2, 4))), (2, ())], [2, 0, 2, 0, 3, 2, 4, 2, 0]),
    ("placed", [WAS], [1, *WAS_CODES]),
    ("had", [(("a",), ((1, 2), (3, 4))), ((), ())], [2, 1, 1, 97, 2, 1, 2, 3, 4, 0, 0]),
    ("taken", [("t",), ()], [2, 1, 1, 116, 0]),
    ("shelf", [Shelved(1, 2, 3, 4, 5, ("back", WAS, ("p",), 8))], [1, 1, 2, 3, 4, 5, 3, *WAS_CODES, 1, 1, 112, 8]),
    ("next_place", 9, [9]),
    ("pending", CHANGE, CHANGE_CODES),
    ("late", [("l",), ("l",)], [2, 1, 1, 108, 1, 1, 108]),
    ("requests", [(1, (2, 3), 4)], [1, 1, 2, 3, 4]),
    ("pieces", [((1, 2), 3, "xy")], [1, 1, 2, 3, 2, 120, 121]),
    ("away", [((1, 2), 3, 4)], [1, 1, 2, 3, 4]),
    ("holding", [(1, 2, (3, 4), 5)], [1, 1, 2, 3, 4, 5]),
    ("asking", [((5, 6), 7, 8)], [1, 5, 6, 7, 8]),
    ("fetching", [(1, 2), (3, 4)], [2, 1, 2, 3, 4]),
    ("drops", [5, 6], [2, 5, 6]),
    ("next_number", 11, [11]),
]
EMPTY = {"next_place": [0], "next_number": [0], "pending": [0]}
HEAD_CODES = [2, 3, 0, 2, 5, *RULE_CODES, 2, 1, 42, 0]
KNOW = Knowledge(
    [0, 2, 5], clock=9, base=[a_line((1, 0), "d")], upto=2, rest=[("drop", (3, 2), ((1, 0),))], knows=[(0, 2), (2, 9), (5, 4)])
KNOW_CODES = [9, 1, 1, 0, 1, 0, 0, 1, 1, 100, 0, 2, 1, 3, 2, 1, 1, 1, 0, 3, 0, 2, 2, 9, 5, 4]
NOTHING_KNOWN = [0, 0, 0, 0, 3, 0, 0, 2, 0, 5, 0]


def state_with(**more):
    return KeeperState(2, [0, 2, 5], RULE, ["*", ""], **more)


def codes_with(*names, know=False):
    """The integers of a state in which just these things are there."""
    codes = HEAD_CODES + (KNOW_CODES if know else NOTHING_KNOWN)
    for name, _, thing in THINGS:
        codes = codes + (thing if name in names else EMPTY.get(name, [0]))
    return codes


def text_of(codes):
    return "foldkeep keeper 1\n" + " ".join(str(code) for code in codes) + "\n"


ALL = [name for name, _, _ in THINGS]


def full_state():
    return state_with(know=KNOW.copy_of(), **{name: thing for name, thing, _ in THINGS})


def types_of(thing):
    """The kinds of a value and of all within it, as 1 and True are equal in Python."""
    if isinstance(thing, (list, tuple)):
        return (type(thing), [types_of(part) for part in thing])
    if isinstance(thing, dict):
        return {name: types_of(part) for name, part in thing.items()}
    return type(thing)


class Written(unittest.TestCase):
    def test_a_new_keeper(self):
        self.assertEqual(pack_state(state_with()), codes_with())
        self.assertEqual(save_text(state_with()), text_of(codes_with()))
        self.assertEqual(
            save_text(KeeperState(0, [0], Rule(), ())),
            "foldkeep keeper 1\n0 1 0 0 0 80 1 1 1 1 0 0 0 0 0 1 0 0 0 0 0 0 0 0 0 0 0 0 0 0 0 0 0 0\n")

    def test_each_thing_by_itself(self):
        for name, thing, _ in THINGS:
            self.assertEqual(pack_state(state_with(**{name: thing})), codes_with(name), name)
        self.assertEqual(pack_state(state_with(know=KNOW)), codes_with(know=True))

    def test_all_together(self):
        self.assertEqual(pack_state(full_state()), codes_with(*ALL, know=True))

    def test_flags_are_written_as_integers(self):
        for code in pack_state(full_state()):
            self.assertIs(type(code), int)

    def test_what_it_is_about_is_not_written(self):
        for stage in [("idle",), ("look",), ("asking", 3), ("reading", 3, True), ("serving",), ("scan",)]:
            self.assertEqual(pack_state(state_with(stage=stage)), codes_with())
        state = state_with()
        scan_of(state)
        self.assertEqual(pack_state(state), codes_with())

    def test_writing_changes_nothing(self):
        state = full_state()
        before = looks_of(state)
        save_text(state)
        self.assertEqual(looks_of(state), before)
        codes = pack_state(state)
        codes.clear()
        self.assertEqual(looks_of(state), before)


class ReadBack(unittest.TestCase):
    def check(self, state, stage):
        loaded = load_text(save_text(state))
        self.assertIsInstance(loaded, KeeperState)
        expected = looks_of(state)
        told = looks_of(loaded)
        self.assertEqual(told["stage"], stage)
        expected["stage"] = stage
        self.assertEqual(told, expected)
        self.assertEqual(types_of(told), types_of(expected))
        self.assertIsNone(loaded.scan)
        self.assertEqual(save_text(loaded), save_text(state))

    def test_a_new_keeper(self):
        self.check(state_with(), ("idle",))
        self.check(KeeperState(0, [0], Rule(), ()), ("idle",))

    def test_each_thing_by_itself(self):
        for name, thing, _ in THINGS:
            self.check(state_with(**{name: thing}), ("look",) if name == "pending" else ("idle",))
        self.check(state_with(know=KNOW), ("idle",))

    def test_all_together(self):
        self.check(full_state(), ("look",))

    def test_the_stage_depends_on_the_pending_change_alone(self):
        for stage in [("idle",), ("look",), ("asking", 3), ("reading", 3, True), ("serving",), ("scan",)]:
            self.check(state_with(stage=stage), ("idle",))
            self.check(state_with(stage=stage, pending=CHANGE), ("look",))

    def test_each_flag_of_the_rule(self):
        for name in ["swaps", "reads", "cuts", "turns"]:
            self.check(KeeperState(0, [0], Rule(**{name: False}), ()), ("idle",))

    def test_all_characters(self):
        signs = "".join(chr(code) for code in [9, 10, *range(32, 37), *range(38, 127)])
        state = KeeperState(0, [0], Rule(unfit=(signs,)), [signs], pieces=[((1, 0), 0, signs)], late=[(signs, signs)])
        self.check(state, ("idle",))

    def test_nothing_else_is_checked(self):
        # A device that is none of its devices, names that are none, and entries that contradict one another.
        self.check(KeeperState(7, [0, 0], Rule(longest=3), (), taken=[("", "..")], drops=[4, 4], next_place=0), ("idle",))

    def test_large_integers(self):
        self.check(state_with(next_number=10 ** 60 - 1), ("idle",))


class Refused(unittest.TestCase):
    GOOD = text_of(codes_with(*ALL, know=True))

    def refused(self, text):
        for action in [load_text, load_keeper]:
            with self.assertRaises(NoKeeper, msg=repr(text[:100])):
                action(text)

    def test_the_good_text_is_good(self):
        self.assertEqual(save_text(load_text(self.GOOD)), self.GOOD)

    def test_another_first_line(self):
        _, second, _ = self.GOOD.split("\n")
        for first in ["", "foldkeep keeper 2", "foldkeep keeper 1 ", " foldkeep keeper 1", "Foldkeep keeper 1",
                      "foldkeep keeper  1", "foldkeep keeper 1\r", "foldkeep keeper", "foldkeep keeper 01"]:
            self.refused(first + "\n" + second + "\n")

    def test_another_number_of_lines(self):
        first, second, _ = self.GOOD.split("\n")
        for text in ["", "\n", "\n\n", first, first + "\n", first + "\n\n", first + "\n" + second, second + "\n",
                     self.GOOD + "\n", "\n" + self.GOOD, self.GOOD + "x", self.GOOD + self.GOOD, first + " " + second + "\n",
                     first + "\n\n" + second + "\n", first + "\r\n" + second + "\r\n"]:
            self.refused(text)

    def with_word(self, at, word):
        first, second, _ = self.GOOD.split("\n")
        words = second.split(" ")
        return first + "\n" + " ".join(words[:at] + [word] + words[at + 1:]) + "\n"

    def test_words_that_are_no_integers_as_they_are_written(self):
        for at in [0, 5, len(self.GOOD.split("\n")[1].split(" ")) - 1]:
            for word in ["", "00", "01", "007", "+1", "-1", "-0", "1.0", "1_0", "0x1", "a", "1a", "\t1", "1\t", "1\r",
                         "\u0661", "\u00b2", "\uff11", "1e3", "True", "None"]:
                self.refused(self.with_word(at, word))

    def test_spaces(self):
        first, second, _ = self.GOOD.split("\n")
        for line in [" " + second, second + " ", second.replace(" ", "  ", 1), " ", "", second.replace(" ", "\t", 1)]:
            self.refused(first + "\n" + line + "\n")

    def test_integers_of_60_and_61_digits(self):
        last = len(self.GOOD.split("\n")[1].split(" ")) - 1
        for word in ["9" * 60, "1" + "0" * 59]:
            self.assertEqual(load_text(self.with_word(last, word)).next_number, int(word))
        for word in ["1" + "0" * 60, "9" * 61, "9" * 5000]:
            self.refused(self.with_word(last, word))

    def test_fewer_integers_than_are_needed(self):
        codes = codes_with(*ALL, know=True)
        for length in range(len(codes)):
            self.refused(text_of(codes[:length]))

    def test_integers_that_are_left_over(self):
        for more in [[0], [1], [0, 0]]:
            self.refused(text_of(codes_with(*ALL, know=True) + more))
            self.refused(text_of(codes_with() + more))

    def wrong_at(self, codes, at, wrong):
        load_text(text_of(codes))
        for code in wrong:
            self.refused(text_of(codes[:at] + [code] + codes[at + 1:]))

    def test_wrong_flags(self):
        for at in range(20, 24):
            self.assertIn(HEAD_CODES[at], [0, 1])
            self.wrong_at(codes_with(), at, [2, 3])
        at = len(codes_with()) - 1 - 9
        self.assertEqual(codes_with("pending")[:at], codes_with()[:at])
        self.wrong_at(codes_with(), at, [2, 3])

    def test_wrong_code_points(self):
        for at in [6, 7, 12, 26]:
            self.assertIn(HEAD_CODES[at], [65, 97, 99, 42])
            self.wrong_at(codes_with(), at, [0, 8, 31, 37, 127, 233, 1114112, 10 ** 30])

    def test_wrong_sizes(self):
        for at in [1, 5, 10, 24]:
            self.wrong_at(codes_with(), at, [99, 10 ** 59])

    def test_kinds_that_do_not_exist(self):
        codes = codes_with("shelf")
        at = codes.index(8, len(HEAD_CODES)) - len(WAS_CODES) - 4
        self.assertEqual(codes[at], 3)
        self.wrong_at(codes, at, [4, 9])
        codes = codes_with("pending")
        at = len(codes_with()) - 9
        self.assertEqual(codes[at - 1:at + 1], [1, 8])
        self.wrong_at(codes, at, [13, 99])
        codes = codes_with(know=True)
        at = len(HEAD_CODES) + 15
        self.assertEqual(codes[at - 2:at + 1], [3, 2, 1])
        self.wrong_at(codes, at, [3, 99])


class GoesOn(unittest.TestCase):
    """A keeper that was saved and loaded goes on as one that crashed."""

    def net(self):
        net = Net([Rule(), Rule(swaps=False)], ["*.tmp"])
        spot = ("folder", ("a.txt",))
        net.program(0, ("make", spot, "one", False))
        net.program(0, ("make_folder", ("folder", ("d",))))
        net.program(1, ("make", spot, "two", True))
        for device in [0, 1]:
            net.wish(device, ("scan",))
            net.work(device, 50)
        return net

    def go_on(self, net, other, many):
        """Plays the same course in both nets, and checks that all stays equal."""
        for number in range(many):
            for device in [0, 1]:
                self.assertEqual(net.step(device), other.step(device))
            if number % 7 == 6:
                for one in [net, other]:
                    one.speak(0, 1)
                    one.speak(1, 0)
                    one.post(20)
            self.assertEqual(net.letters, other.letters)
            for device in [0, 1]:
                self.assertEqual(looks_of(net.keepers[device].state), looks_of(other.keepers[device].state))
                self.assertEqual(net.hosts[device].tree(), other.hosts[device].tree())

    def test_at_each_time(self):
        net = self.net()
        stages = []
        for number in range(40):
            device = number % 2
            crashed = net.fork()
            crashed.crash(device)
            loaded = net.fork()
            stages.append(net.keepers[device].state.stage[0])
            loaded.keepers[device] = load_keeper(net.keepers[device].save())
            self.assertIsInstance(loaded.keepers[device], Keeper)
            self.go_on(crashed, loaded, 30)
            if number % 9 == 8:
                net.speak(0, 1)
                net.speak(1, 0)
                net.post(20)
            if number in [15, 30]:
                net.program(0, ("write", ("folder", ("a.txt",)), 0, "three"))
                for other in [0, 1]:
                    if net.keepers[other].state.stage == ("idle",):
                        net.wish(other, ("scan",))
            net.step(device)
        self.assertLessEqual({"idle", "look", "scan"}, set(stages))

    def test_a_keeper_that_is_idle_stays_as_it_is(self):
        net = self.net()
        for keeper in net.keepers:
            self.assertEqual(looks_of(load_keeper(keeper.save()).state), looks_of(keeper_copy(keeper).state))


class Lists(unittest.TestCase):
    def test_a_keeper_that_is_read_shares_nothing_with_another(self):
        text = save_text(full_state())
        first = load_text(text)
        second = load_text(text)
        before = looks_of(second)
        for name in LISTS:
            getattr(first, name).clear()
        first.know.rest.clear()
        first.know.knows.clear()
        self.assertEqual(looks_of(second), before)

    def test_marks_stay_marks(self):
        state = state_with(placed=[Placed(("a",), ("a",), 1, 0, 0, mark("x", True), (), None, False)])
        self.assertIs(load_text(save_text(state)).placed[0].content[3], True)


if __name__ == "__main__":
    unittest.main()
