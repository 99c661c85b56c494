"""Points 64, 66, 67 and 73: what the end of a scan tells of folders and files that were found, and what is left."""

import unittest

from foldkeep.names import Rule
from foldkeep.state import Shelved
from keeps import a_file, a_folder, a_line, a_scan, a_state, ended, found_file, found_folder, mark, rows


def write(number, place, content, line=None, replaces=()):
    return ("write", number, place, content, line, replaces)


def in_root(*names):
    return (None, names, names)


class FoldersFound(unittest.TestCase):
    def test_a_folder_where_it_was_placed(self):
        for at_rest in [True, False]:
            state = a_state([a_line((1, 1), "d")], placed=[
                a_folder("d (1-1)", names=("d",), thing=3, count=1, cuts=2, ids=((1, 1),), line=(1, 1), seen=False)])
            self.assertEqual(ended(state, found_folder("d (1-1)", thing=9), at_rest=at_rest), [])
            self.assertEqual(rows(state.placed), [(("d (1-1)",), ("d",), 9, 1, 2, None, ((1, 1),), (1, 1), True)])

    def test_its_names_are_made_anew_among_those_that_were_made(self):
        placed = [a_folder("x", "y", names=("old", "Y"), thing=2, ids=((2, 1),)), a_folder("x", names=("X",), ids=((1, 1),))]
        lines = [a_line((1, 1), "X"), a_line((2, 1), "Y", inside=(1, 1))]
        state = a_state(lines, placed=placed)
        self.assertEqual(ended(state, found_folder("x"), found_folder("x", "y", thing=2)), [])
        self.assertEqual([entry.names for entry in state.placed], [("X",), ("X", "Y")])
        self.assertEqual([entry.path for entry in state.placed], [("x",), ("x", "y")])

    def test_a_file_that_was_placed_there_does_not_count(self):
        for at_rest in [True, False]:
            state = a_state(placed=[a_file("d", thing=3)])
            self.assertEqual(ended(state, found_folder("d", thing=3), at_rest=at_rest), [write((1, 0), in_root("d"), None)])

    def test_a_new_folder(self):
        for at_rest in [True, False]:
            state = a_state([a_line((4, 1), "d")], placed=[a_folder("d", names=("D",), thing=1, ids=((4, 1),), line=(4, 1))])
            edits = ended(state, found_folder("d"), found_folder("d", "e", thing=2), at_rest=at_rest)
            self.assertEqual(edits, [write((5, 0), ((4, 1), ("e",), ("D", "e")), None)])
            self.assertEqual(
                rows(state.placed)[1], (("d", "e"), ("D", "e"), 2, 0, 0, None, ((5, 0),), (5, 0), True))
            self.assertEqual(state.had, [])

    def test_new_folders_at_several_depths_stand_inside_one_another(self):
        state = a_state()
        edits = ended(state, found_folder("d", thing=5), found_folder("d", "e", thing=6), found_folder("d", "e", "f", thing=7))
        self.assertEqual(edits, [
            write((1, 0), in_root("d"), None), write((2, 0), ((1, 0), ("e",), ("d", "e")), None),
            write((3, 0), ((2, 0), ("f",), ("d", "e", "f")), None),
        ])

    def test_inside_a_folder_that_stands_for_nothing(self):
        state = a_state([a_line((1, 1), "d", "a", text="x")], placed=[a_folder("d", names=("D",))])
        edits = ended(state, found_folder("d"), found_folder("d", "e", thing=2), at_rest=False)
        self.assertEqual(edits, [write((2, 0), in_root("D", "e"), None)])

    def test_a_folder_at_another_path_is_new_if_the_names_were_not_at_rest(self):
        state = a_state([a_line((1, 1), "d")], placed=[a_folder("d", thing=3, ids=((1, 1),), line=(1, 1))])
        edits = ended(state, found_folder("e", thing=3), at_rest=False)
        self.assertEqual(edits, [write((2, 0), in_root("e"), None)])
        self.assertEqual([entry.path for entry in state.placed], [("e",), ("d",)])


class FilesFound(unittest.TestCase):
    def test_a_file_without_a_mark_stays_as_it_was_placed(self):
        for at_rest in [True, False]:
            entry = a_file("a", names=("A",), thing=3, count=4, cuts=5, text="x", ids=((1, 1),), line=(1, 1), seen=False)
            state = a_state([a_line((1, 1), "A", text="x")], placed=[entry], had=[(("a",), ((7, 7),))])
            before = rows([entry])
            self.assertEqual(ended(state, found_file("a", thing=8, count=9), at_rest=at_rest), [])
            self.assertEqual(rows(state.placed), before)
            self.assertEqual(state.had, [(("a",), ((7, 7),))])

    def test_a_file_without_a_mark_that_was_not_placed(self):
        for at_rest in [True, False]:
            state = a_state(placed=[a_folder("a")])
            self.assertEqual(ended(state, found_folder("a"), found_file("a", thing=8), found_file("b"), at_rest=at_rest), [])
            self.assertEqual([entry.path for entry in state.placed], [("a",)])
            self.assertIsNone(state.placed[0].content)

    def test_the_same_mark(self):
        for at_rest in [True, False]:
            entry = a_file("a (1-1)", names=("a",), thing=3, text="x", ids=((1, 1),), line=(1, 1), seen=False)
            state = a_state([a_line((1, 1), "a", text="x")], placed=[entry], had=[(("b",), ((7, 7),))])
            self.assertEqual(ended(state, found_file("a (1-1)", thing=8, count=9, cuts=2, text="x"), at_rest=at_rest), [])
            self.assertEqual(
                rows(state.placed), [(("a (1-1)",), ("a",), 8, 9, 2, mark("x"), ((1, 1),), (1, 1), True)])
            self.assertEqual(state.had, [(("b",), ((7, 7),))])

    def test_another_mark(self):
        for at_rest in [True, False]:
            entry = a_file("a (1-1)", names=("a",), thing=3, count=1, text="x", ids=((6, 1),), line=(1, 1), seen=False)
            state = a_state([a_line((1, 1), "a", head=(6, 1), text="x")], placed=[entry], had=[(("b",), ((7, 7),))])
            edits = ended(state, found_file("a (1-1)", thing=3, count=2, cuts=0, text="y"), at_rest=at_rest)
            self.assertEqual(edits, [write((7, 0), in_root("a"), mark("y"), (1, 1), ((6, 1),))])
            self.assertEqual(
                rows(state.placed), [(("a (1-1)",), ("a",), 3, 2, 0, mark("y"), ((7, 0),), (1, 1), True)])
            self.assertEqual(state.had, [(("b",), ((7, 7),)), (("a (1-1)",), ((7, 0),))])
            self.assertEqual(state.know.lines(), [a_line((1, 1), "a", head=(7, 0), text="y")])

    def test_the_same_text_that_runs_now(self):
        state = a_state([a_line((1, 1), "a", text="x")], placed=[a_file("a", text="x", ids=((1, 1),), line=(1, 1))])
        found = found_file("a", text="x")
        found.mark = mark("x", True)
        self.assertEqual(ended(state, found), [write((2, 0), in_root("a"), mark("x", True), (1, 1), ((1, 1),))])

    def test_another_mark_of_another_thing_replaces_what_programs_have_had(self):
        entry = a_file("a", thing=3, count=1, text="x", ids=((6, 1),), line=(1, 1))
        lines = [a_line((1, 1), "a", head=(6, 1), text="x")]
        for at_rest in [True, False]:
            state = a_state(lines, placed=[entry], had=[(("a",), ((2, 1),))])
            edits = ended(state, found_file("a", thing=4, text="y"), at_rest=at_rest)
            self.assertEqual(edits, [write((7, 0), in_root("a"), mark("y"), (1, 1), ((2, 1),))])
            self.assertEqual((state.placed[0].ids, state.placed[0].line), (((7, 0),), (7, 0)))
            self.assertEqual(state.had, [(("a",), ((7, 0),))])
            state = a_state(lines, placed=[entry])
            edits = ended(state, found_file("a", thing=4, text="y"), at_rest=at_rest)
            self.assertEqual(edits, [write((7, 0), in_root("a"), mark("y"), (1, 1), ())])

    def test_programs_have_read_what_was_placed(self):
        entry = a_file("a", thing=3, count=1, text="x", ids=((6, 1),), line=(1, 1))
        lines = [a_line((1, 1), "a", head=(6, 1), text="x")]
        for read, replaces in [((3, 1), ((6, 1),)), ((3, 0), ()), ((4, 1), ())]:
            state = a_state(lines, placed=[entry])
            edits = ended(state, found_file("a", thing=4, text="y"), have_read=[(5, 5), read])
            self.assertEqual(edits, [write((7, 0), in_root("a"), mark("y"), (1, 1), replaces)])

    def test_a_file_that_was_cut(self):
        entry = a_file("a", thing=3, count=1, cuts=0, text="x", ids=((6, 1),), line=(1, 1))
        lines = [a_line((1, 1), "a", head=(6, 1), text="x")]
        for rule, replaces in [(Rule(), ()), (Rule(cuts=False), ((6, 1),))]:
            state = a_state(lines, placed=[entry], rule=rule)
            edits = ended(state, found_file("a", thing=3, count=3, cuts=1, text="y"))
            self.assertEqual(edits, [write((7, 0), in_root("a"), mark("y"), (1, 1), replaces)])

    def test_the_heads_that_were_put_right_are_replaced(self):
        entry = a_file("a", thing=3, text="x", ids=((6, 1), (9, 1)), line=(7, 7))
        state = a_state([a_line((1, 1), "a", head=(6, 1), text="x")], placed=[entry], clock=9)
        edits = ended(state, found_file("a", thing=3, count=1, text="y"))
        self.assertEqual(edits, [write((10, 0), in_root("a"), mark("y"), (1, 1), ((6, 1),))])

    def test_a_new_file(self):
        for at_rest in [True, False]:
            state = a_state([a_line((1, 1), "d")], placed=[a_folder("d", names=("D",), ids=((1, 1),), line=(1, 1))])
            edits = ended(state, found_folder("d"), found_file("d", "a", thing=2, count=3, cuts=4, text="x"), at_rest=at_rest)
            self.assertEqual(edits, [write((2, 0), ((1, 1), ("a",), ("D", "a")), mark("x"))])
            self.assertEqual(
                rows(state.placed)[1], (("d", "a"), ("D", "a"), 2, 3, 4, mark("x"), ((2, 0),), (2, 0), True))
            self.assertEqual(state.had, [(("d", "a"), ((2, 0),))])

    def test_a_file_where_a_folder_was_placed_is_new(self):
        state = a_state([a_line((1, 1), "d")], placed=[a_folder("d", thing=3, ids=((1, 1),), line=(1, 1))])
        edits = ended(state, found_file("d", thing=3, text="x"), at_rest=False)
        self.assertEqual(edits, [write((2, 0), in_root("d"), mark("x"))])

    def test_a_file_at_another_path_is_new_if_the_names_were_not_at_rest(self):
        state = a_state([a_line((1, 1), "a", text="x")], placed=[a_file("a", thing=3, text="x", ids=((1, 1),), line=(1, 1))])
        edits = ended(state, found_file("b", thing=3, text="x"), at_rest=False)
        self.assertEqual(edits, [write((2, 0), in_root("b"), mark("x"))])
        self.assertEqual([entry.path for entry in state.placed], [("b",), ("a",)])

    def test_folders_come_first_however_they_were_found(self):
        state = a_state()
        found = [found_file("a", text="x"), found_folder("e", thing=2), found_file("e", "b", thing=3, text="y"),
                 found_folder("d", thing=4)]
        edits = ended(state, *found)
        self.assertEqual(edits, [
            write((1, 0), in_root("e"), None), write((2, 0), in_root("d"), None), write((3, 0), in_root("a"), mark("x")),
            write((4, 0), ((1, 0), ("b",), ("e", "b")), mark("y")),
        ])
        self.assertEqual([entry.path for entry in state.placed], [("e",), ("d",), ("a",), ("e", "b")])

    def test_the_names_of_a_file_are_made_anew(self):
        lines = [a_line((1, 1), "new"), a_line((2, 1), "A", text="x", inside=(1, 1))]
        placed = [a_folder("d", names=("new",), ids=((1, 1),), line=(1, 1)),
                  a_file("d", "a", names=("old", "A"), thing=2, text="x", ids=((2, 1),), line=(2, 1))]
        state = a_state(lines, placed=placed)
        self.assertEqual(ended(state, found_folder("d"), found_file("d", "a", thing=2, text="x"), at_rest=False), [])
        self.assertEqual(state.placed[1].names, ("new", "A"))

    def test_only_the_first_file_at_a_path_is_gone_on_with(self):
        placed = [a_file("a", thing=1, text="x", ids=((1, 1),)), a_file("a", thing=2, text="y", ids=((2, 1),))]
        for at_rest in [True, False]:
            state = a_state(placed=placed)
            self.assertEqual(ended(state, found_file("a", thing=2, text="x"), at_rest=at_rest), [])
            self.assertEqual(rows(state.placed), [(("a",), ("a",), 2, 0, 0, mark("x"), ((1, 1),), None, True)])


class WhatIsLeft(unittest.TestCase):
    def test_missing_entries_stay_after_all_others_if_the_names_were_not_at_rest(self):
        placed = [a_file("a", thing=1, ids=((1, 1),)), a_folder("d", thing=2, ids=((2, 1),)), a_file("b", thing=3, text="b"),
                  a_folder("e", thing=4), a_folder("c", "f", thing=5, seen=False), a_file("b", thing=9, text="c")]
        before = rows(placed)
        state = a_state(placed=placed, had=[(("a",), ((1, 1),))])
        edits = ended(state, found_file("new", thing=1, text="n"), found_folder("e", thing=4), at_rest=False)
        self.assertEqual(edits, [write((1, 0), in_root("new"), mark("n"))])
        self.assertEqual([entry.path for entry in state.placed[:2]], [("e",), ("new",)])
        self.assertEqual(rows(state.placed)[2:], [before[0], before[1], before[2], before[4], before[5]])
        self.assertEqual(state.had, [(("a",), ((1, 1),)), (("new",), ((1, 0),))])

    def test_taken_and_late_paths_and_the_stage_afterwards(self):
        for at_rest in [True, False]:
            shelf = [Shelved(1, 2, 3, 4, 5, ("coming", (1, 1), mark("x")))]
            state = a_state(taken=[("old",)], late=[("a",), ("a",)], shelf=shelf, stage=("scan",))
            state.scan = a_scan(taken=[("t",), ("d", "u")], at_rest=at_rest)
            ended(state, taken=[("t",), ("d", "u")], at_rest=at_rest)
            self.assertEqual((state.taken, state.late, state.stage), ([("t",), ("d", "u")], [], ("look",)))
            self.assertIsNone(state.scan)
            self.assertEqual(state.shelf, shelf)

    def test_a_scan_that_finds_nothing_and_nothing_is_placed(self):
        state = a_state()
        self.assertEqual(ended(state), [])
        self.assertEqual((state.placed, state.had, state.taken), ([], [], []))

    def test_the_entries_that_were_placed_are_not_changed(self):
        entry = a_file("a", thing=1, text="x", ids=((1, 1),), line=(1, 1), seen=False)
        folder = a_folder("d", thing=2, ids=((2, 1),), line=(2, 1), seen=False)
        before = rows([entry, folder])
        state = a_state([a_line((1, 1), "a", text="x"), a_line((2, 1), "d")], placed=[entry, folder])
        ended(state, found_file("a", thing=5, text="y"), found_folder("d", thing=6))
        self.assertEqual(rows([entry, folder]), before)


if __name__ == "__main__":
    unittest.main()
