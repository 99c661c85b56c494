"""Points 55, 62, 74, 77, 122 and 123: what a keeper keeps."""

import unittest

from foldkeep.knowing import Knowledge
from foldkeep.names import Rule
from foldkeep.scanning import Scan
from foldkeep.state import (
    KeeperState, Placed, Shelved, file_at, folder_at, had_at, placed_at, placed_row, shelved_at, shelved_row,
    state_copy, with_had,
)
from keeps import LISTS, a_file, a_folder, a_line, knowing, looks_of, mark, shelf_rows

FULL = {
    "heard": [(1, ((0, 2), (1, 3)))],
    "had": [(("a",), ((1, 0),))],
    "taken": [("t",)],
    "next_place": 4,
    "pending": (("take", ("a",), 3), (), (), None, None),
    "late": [("l",), ("l",)],
    "requests": [(1, (1, 0), 0)],
    "pieces": [((1, 0), 0, "x")],
    "away": [((1, 0), 0, 1)],
    "holding": [(1, 0, (1, 0), 2)],
    "asking": [((1, 0), 1, 2)],
    "fetching": [(1, 0)],
    "drops": [3],
    "next_number": 2,
    "stage": ("look",),
}


def full_state():
    return KeeperState(
        1, [0, 1], Rule(), ["*.tmp"], know=knowing([a_line((1, 0), "a", text="x")], [0, 1]),
        placed=[a_file("a", text="x", ids=((1, 0),))], shelf=[Shelved(2, 5, 0, 0, 1, ("coming", (1, 0), mark("x")))],
        **FULL)


class States(unittest.TestCase):
    def test_a_new_state_is_idle_and_knows_nothing(self):
        rule = Rule()
        state = KeeperState(1, [0, 1], rule, ())
        self.assertEqual((state.me, state.devices, state.ignores), (1, [0, 1], ()))
        self.assertIs(state.rule, rule)
        self.assertEqual((state.stage, state.scan, state.pending), (("idle",), None, None))
        self.assertEqual((state.next_place, state.next_number), (0, 0))
        for name in LISTS[1:]:
            self.assertEqual(getattr(state, name), [], name)
        self.assertIsInstance(state.know, Knowledge)
        self.assertEqual(vars(state.know), vars(Knowledge([0, 1])))

    def test_the_arguments_are_attributes(self):
        state = full_state()
        for name, value in FULL.items():
            self.assertEqual(getattr(state, name), value, name)
        know = Knowledge([0])
        self.assertIs(KeeperState(0, [0], Rule(), (), know=know).know, know)
        self.assertEqual(placed_row(state.placed[0]), placed_row(a_file("a", text="x", ids=((1, 0),))))
        self.assertEqual(state.shelf[0].place, 2)

    def test_lists_are_new_lists_and_patterns_a_tuple(self):
        ignores = ["*.tmp", "x"]
        self.assertEqual(KeeperState(0, [0], Rule(), ignores).ignores, ("*.tmp", "x"))
        devices = [0, 1]
        for name in LISTS[1:]:
            passed = [("x",)]
            state = KeeperState(0, devices, Rule(), (), **{name: passed})
            self.assertIsNot(getattr(state, name), passed)
            getattr(state, name).append(("y",))
            self.assertEqual(passed, [("x",)])
            self.assertEqual(getattr(KeeperState(0, [0], Rule(), (), **{name: (("x",),)}), name), [("x",)])
        state.devices.append(2)
        self.assertEqual(devices, [0, 1])
        self.assertEqual(KeeperState(0, (0, 1), Rule(), ()).devices, [0, 1])

    def test_two_new_states_share_nothing(self):
        first = KeeperState(0, [0], Rule(), ())
        second = KeeperState(0, [0], Rule(), ())
        for name in LISTS:
            getattr(first, name).append("x")
            self.assertNotIn("x", getattr(second, name))


class Copies(unittest.TestCase):
    def test_a_copy_is_equal(self):
        state = full_state()
        self.assertEqual(looks_of(state_copy(state)), looks_of(state))

    def test_what_happens_in_a_copy_does_not_change_the_other_one(self):
        for first, second in [(0, 1), (1, 0)]:
            state = full_state()
            pair = [state, state_copy(state)]
            before = looks_of(pair[second])
            changed = pair[first]
            for name in LISTS:
                getattr(changed, name).append("x")
            changed.know.write(1, (None, ("b",), ("b",)), None, None, ())
            changed.know.base.clear()
            changed.know.knows.clear()
            changed.placed[0].seen = None
            changed.placed[0].path = ("other",)
            changed.shelf[0].purpose = None
            changed.shelf[0].place = 77
            changed.next_place = changed.next_number = 99
            changed.pending = None
            changed.stage = ("idle",)
            self.assertEqual(looks_of(pair[second]), before)

    def test_what_was_expected_is_copied_too(self):
        for kind, *more in [("kept",), ("found",), ("back", ("b",), 3)]:
            was = a_file("a", text="x", ids=((1, 0),))
            state = KeeperState(0, [0, 1], Rule(), (), shelf=[Shelved(2, 5, 0, 0, 1, (kind, was, *more))])
            copy = state_copy(state)
            self.assertEqual(shelf_rows(copy.shelf), shelf_rows(state.shelf))
            for first, second in [(state, copy), (copy, state)]:
                before = shelf_rows(second.shelf)
                first.shelf[0].purpose[1].path = ("z",)
                first.shelf[0].purpose[1].ids = ((9, 9),)
                self.assertEqual(shelf_rows(second.shelf), before)
                self.assertNotEqual(shelf_rows(first.shelf), before)
                first.shelf[0].purpose[1].path = ("a",)
                first.shelf[0].purpose[1].ids = ((1, 0),)

    def test_a_scan_is_shared(self):
        state = full_state()
        state.scan = Scan([])
        self.assertIs(state_copy(state).scan, state.scan)
        self.assertIsNone(state_copy(full_state()).scan)


class Entries(unittest.TestCase):
    def test_placed(self):
        row = (("a", "b"), ("c", "d"), 3, 4, 5, mark("x"), ((1, 0), (2, 0)), (1, 0), True)
        entry = Placed(*row)
        self.assertEqual(
            (entry.path, entry.names, entry.thing, entry.count, entry.cuts, entry.content, entry.ids, entry.line,
             entry.seen), row)
        self.assertEqual(placed_row(entry), row)
        self.assertEqual(placed_row(Placed((), (), 0, 0, 0, None, (), None, False)), ((), (), 0, 0, 0, None, (), None, False))

    def test_shelved(self):
        was = a_file("a", text="x", ids=((1, 0),), line=(1, 0))
        row = (("a",), ("a",), 1, 0, 0, mark("x"), ((1, 0),), (1, 0), True)
        for purpose, told in [
            (("coming", (1, 0), mark("x")), ("coming", (1, 0), mark("x"))), (("kept", was), ("kept", row)),
            (("found", was), ("found", row)), (("back", was, ("b",), 2), ("back", row, ("b",), 2)),
        ]:
            entry = Shelved(1, 2, 3, 4, 5, purpose)
            self.assertEqual(
                (entry.place, entry.thing, entry.count, entry.cuts, entry.length, entry.purpose), (1, 2, 3, 4, 5, purpose))
            self.assertEqual(shelved_row(entry), (1, 2, 3, 4, 5, told))
            self.assertIs(entry.purpose, purpose)

    def test_the_row_of_an_entry_whose_purpose_holds_a_folder_or_a_stand_in(self):
        row = (("a",), ("a",), 0, 0, 0, None, (), None, False)
        for kind in ["kept", "found"]:
            self.assertEqual(shelved_row(Shelved(1, 2, 3, 4, 5, (kind, Placed(*row)))), (1, 2, 3, 4, 5, (kind, row)))

    def test_what_is_placed_at_a_path(self):
        placed = [a_file("b"), a_folder("a", thing=1), a_file("a", thing=2), a_folder("a", thing=3), a_file("a", thing=4)]
        self.assertIs(placed_at(placed, ("a",)), placed[1])
        self.assertIs(folder_at(placed, ("a",)), placed[1])
        self.assertIs(file_at(placed, ("a",)), placed[2])
        self.assertIs(placed_at(placed, ("b",)), placed[0])
        self.assertIs(file_at(placed, ("b",)), placed[0])
        self.assertIsNone(folder_at(placed, ("b",)))
        self.assertIsNone(file_at(placed[3:4], ("a",)))
        for path in [(), ("A",), ("a", "a"), ("c",)]:
            self.assertIsNone(placed_at(placed, path))
            self.assertIsNone(file_at(placed, path))
            self.assertIsNone(folder_at(placed, path))

    def test_what_lies_at_a_place(self):
        shelf = [Shelved(2, 1, 0, 0, 0, ()), Shelved(0, 2, 0, 0, 0, ()), Shelved(2, 3, 0, 0, 0, ())]
        self.assertIs(shelved_at(shelf, 2), shelf[0])
        self.assertIs(shelved_at(shelf, 0), shelf[1])
        self.assertIsNone(shelved_at(shelf, 1))
        self.assertIsNone(shelved_at([], 0))


class Had(unittest.TestCase):
    HAD = [(("a",), ((1, 0),)), (("b",), ((2, 0), (3, 0)))]

    def test_what_programs_have_had(self):
        self.assertEqual(had_at(self.HAD, ("a",)), ((1, 0),))
        self.assertEqual(had_at(self.HAD, ("b",)), ((2, 0), (3, 0)))
        self.assertEqual(had_at(self.HAD, ("c",)), ())
        self.assertEqual(had_at([], ()), ())

    def test_what_is_new_stands_at_the_end(self):
        self.assertEqual(with_had(self.HAD, ("c",), ((4, 0),)), self.HAD + [(("c",), ((4, 0),))])
        self.assertEqual(with_had(self.HAD, ("a",), ((4, 0),)), [self.HAD[1], (("a",), ((4, 0),))])
        self.assertEqual(with_had(self.HAD, ("a",), ((1, 0),)), [self.HAD[1], self.HAD[0]])
        self.assertEqual(with_had(self.HAD, (), ((1, 0),)), self.HAD + [((), ((1, 0),))])

    def test_nothing_is_added_for_nothing(self):
        self.assertEqual(with_had(self.HAD, ("a",), ()), [self.HAD[1]])
        self.assertEqual(with_had(self.HAD, ("c",), ()), self.HAD)

    def test_the_list_is_a_new_one(self):
        had = list(self.HAD)
        self.assertIsNot(with_had(had, ("c",), ()), had)
        with_had(had, ("a",), ((4, 0),))
        self.assertEqual(had, self.HAD)


if __name__ == "__main__":
    unittest.main()
