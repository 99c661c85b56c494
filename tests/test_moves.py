"""Point 68: what was moved, and which of its heads are moved."""

import unittest

from foldkeep.names import Rule
from keeps import a_file, a_folder, a_line, a_state, ended, found_file, found_folder, mark, rows


def in_root(*names):
    return (None, names, names)


class Files(unittest.TestCase):
    LINES = (a_line((1, 1), "d"), a_line((2, 1), "a", text="x", head=(6, 1)))

    def state(self, **more):
        placed = [a_folder("d", thing=1, ids=((1, 1),), line=(1, 1)),
                  a_file("a", thing=2, count=3, cuts=4, text="x", ids=((6, 1),), line=(2, 1), seen=False)]
        return a_state(self.LINES, placed=placed, **more)

    def test_a_file_that_was_renamed(self):
        state = self.state(had=[(("a",), ((6, 1),)), (("z",), ((7, 7),))])
        edits = ended(state, found_folder("d"), found_file("b", thing=2, count=5, cuts=6, text="x"))
        self.assertEqual(edits, [("move", (7, 0), (((6, 1), (2, 1), in_root("b")),))])
        self.assertEqual(rows(state.placed)[1], (("b",), ("b",), 2, 5, 6, mark("x"), ((6, 1),), (2, 1), True))
        self.assertEqual(state.had, [(("z",), ((7, 7),)), (("b",), ((6, 1),))])

    def test_a_file_that_was_moved_to_a_folder(self):
        state = self.state()
        edits = ended(state, found_folder("d"), found_file("d", "a", thing=2, count=3, cuts=4, text="x"))
        place = ((1, 1), ("a",), ("d", "a"))
        self.assertEqual(edits, [("move", (7, 0), (((6, 1), (2, 1), place),))])
        self.assertEqual(rows(state.placed)[1], (("d", "a"), ("d", "a"), 2, 3, 4, mark("x"), ((6, 1),), (2, 1), True))
        self.assertEqual(state.know.lines()[1], a_line((2, 1), "a", text="x", head=(6, 1), inside=(1, 1)))

    def test_a_file_that_was_moved_to_a_new_folder(self):
        state = self.state()
        edits = ended(state, found_folder("d"), found_folder("e", thing=9), found_file("e", "b", thing=2, count=3, text="x"))
        self.assertEqual(edits, [
            ("write", (7, 0), in_root("e"), None, None, ()),
            ("move", (8, 0), (((6, 1), (2, 1), ((7, 0), ("b",), ("e", "b"))),)),
        ])

    def test_a_file_that_was_renamed_and_written(self):
        state = self.state()
        edits = ended(state, found_folder("d"), found_file("b", thing=2, count=5, cuts=4, text="y"))
        self.assertEqual(edits, [
            ("move", (7, 0), (((6, 1), (2, 1), in_root("b")),)),
            ("write", (8, 0), in_root("b"), mark("y"), (2, 1), ((6, 1),)),
        ])
        self.assertEqual(rows(state.placed)[1], (("b",), ("b",), 2, 5, 4, mark("y"), ((8, 0),), (2, 1), True))
        self.assertEqual(state.had, [(("b",), ((8, 0),))])
        self.assertEqual(state.know.lines()[1], a_line((2, 1), "b", text="y", head=(8, 0)))

    def test_what_a_renamed_and_written_file_replaces(self):
        found = found_file("b", thing=2, count=5, cuts=0, text="y")
        for had, read, replaces in [
            ([], [], ()), ([(("a",), ((3, 1),))], [], ((3, 1),)), ([(("a",), ((6, 1),))], [], ((6, 1),)),
            ([(("b",), ((6, 1),))], [], ()), ([], [(2, 3)], ((6, 1),)), ([], [(2, 5)], ()),
        ]:
            with self.subTest(had=had, read=read):
                edits = ended(self.state(had=had), found_folder("d"), found, have_read=read)
                self.assertEqual(edits[1], ("write", (8, 0), in_root("b"), mark("y"), (2, 1), replaces))
        edits = ended(self.state(rule=Rule(cuts=False)), found_folder("d"), found)
        self.assertEqual(edits[1][5], ((6, 1),))

    def test_what_programs_had_had_comes_along_in_place_of_what_is_there(self):
        state = self.state(had=[(("a",), ((3, 1),)), (("b",), ((4, 1),))])
        ended(state, found_folder("d"), found_file("b", thing=2, count=3, cuts=4, text="x"))
        self.assertEqual(state.had, [(("b",), ((3, 1),))])
        state = self.state(had=[(("b",), ((4, 1),))])
        ended(state, found_folder("d"), found_file("b", thing=2, count=3, cuts=4, text="x"))
        self.assertEqual(state.had, [])

    def test_the_first_file_with_the_thing_that_was_not_found_at_its_path(self):
        lines = [a_line((1, 1), "a", text="x"), a_line((2, 1), "b", text="y"), a_line((3, 1), "c", text="z")]
        placed = [a_file("a", thing=5, text="x", ids=((1, 1),), line=(1, 1)), a_folder("e", thing=5, ids=((9, 9),)),
                  a_file("b", thing=5, text="y", ids=((2, 1),), line=(2, 1)),
                  a_file("c", thing=5, text="z", ids=((3, 1),), line=(3, 1))]
        state = a_state(lines, placed=placed)
        edits = ended(state, found_file("a", thing=6, text="x"), found_file("n", thing=5, text="y"))
        self.assertEqual(edits[0], ("move", (4, 0), (((2, 1), (2, 1), in_root("n")),)))
        self.assertEqual([(entry.path, entry.ids) for entry in state.placed], [(("a",), ((1, 1),)), (("n",), ((2, 1),))])

    def test_a_file_that_is_found_where_it_was_placed_was_not_moved(self):
        state = self.state()
        edits = ended(state, found_folder("d"), found_file("a", thing=9, text="x"), found_file("b", thing=2, text="x"))
        self.assertEqual(edits, [("write", (7, 0), in_root("b"), mark("x"), None, ())])

    def test_a_file_is_not_moved_to_where_a_file_was_placed(self):
        lines = [a_line((1, 1), "a", text="x"), a_line((2, 1), "b", text="y")]
        placed = [a_file("a", thing=1, text="x", ids=((1, 1),), line=(1, 1)),
                  a_file("b", thing=2, text="y", ids=((2, 1),), line=(2, 1))]
        state = a_state(lines, placed=placed)
        edits = ended(state, found_file("b", thing=1, text="x"), have_read=[(2, 0)])
        self.assertEqual(edits, [
            ("write", (3, 0), in_root("b"), mark("x"), (2, 1), ((2, 1),)), ("drop", (4, 0), ((1, 1),))])

    def test_a_file_is_moved_to_where_a_folder_was_placed(self):
        state = self.state()
        edits = ended(state, found_file("d", thing=2, text="x"))
        self.assertEqual(edits[0], ("move", (7, 0), (((6, 1), (2, 1), in_root("d")),)))

    def test_a_file_without_a_mark_is_not_moved(self):
        state = self.state()
        self.assertEqual(ended(state, found_folder("d"), found_file("b", thing=2)), [])
        self.assertEqual([entry.path for entry in state.placed], [("d",), ("a",)])

    def test_nothing_is_moved_if_the_names_were_not_at_rest(self):
        state = self.state(had=[(("a",), ((6, 1),))])
        edits = ended(state, found_folder("d"), found_file("b", thing=2, text="x"), at_rest=False)
        self.assertEqual(edits, [("write", (7, 0), in_root("b"), mark("x"), None, ())])
        self.assertEqual(state.had, [(("a",), ((6, 1),)), (("b",), ((7, 0),))])

    def test_a_file_keeps_its_own_name_under_the_same_last_name(self):
        lines = [a_line((1, 1), "d"), a_line((2, 1), "a", text="w"), a_line((3, 1), "a", text="x")]
        placed = [a_folder("d", thing=1, ids=((1, 1),), line=(1, 1)), a_file("a", thing=2, text="w", ids=((2, 1),), line=(2, 1)),
                  a_file("a (3-1)", names=("a",), thing=3, text="x", ids=((3, 1),), line=(3, 1))]
        state = a_state(lines, placed=placed)
        edits = ended(state, found_folder("d"), found_file("a", thing=2, text="w"), found_file("d", "a (3-1)", thing=3, text="x"))
        self.assertEqual(edits, [("move", (4, 0), (((3, 1), (3, 1), ((1, 1), ("a",), ("d", "a"))),))])
        self.assertEqual((state.placed[2].path, state.placed[2].names), (("d", "a (3-1)"), ("d", "a")))

    def test_a_written_file_keeps_its_own_name_under_the_same_last_name(self):
        lines = [a_line((1, 1), "d"), a_line((3, 1), "a", text="x")]
        placed = [a_folder("d", thing=1, ids=((1, 1),), line=(1, 1)),
                  a_file("a (3-1)", names=("a",), thing=3, text="x", ids=((3, 1),), line=(3, 1))]
        state = a_state(lines, placed=placed)
        edits = ended(state, found_folder("d"), found_file("d", "a (3-1)", thing=3, count=1, text="y"))
        self.assertEqual(edits[1], ("write", (5, 0), ((1, 1), ("a",), ("d", "a")), mark("y"), (3, 1), ((3, 1),)))
        self.assertEqual(state.placed[1].names, ("d", "a"))

    def test_all_moves_are_one_edit_folders_first_then_files_as_they_were_found(self):
        lines = [a_line((1, 1), "a", text="x"), a_line((2, 1), "b", text="y"), a_line((3, 1), "c", text="x", head=(3, 1)),
                 a_line((4, 1), "d")]
        placed = [a_file("a", thing=1, text="x", ids=((1, 1),), line=(1, 1)), a_file("b", thing=2, text="y", ids=((2, 1),), line=(2, 1)),
                  a_folder("d", thing=4, ids=((4, 1),), line=(4, 1)), a_file("c", thing=3, text="x", ids=((3, 1),), line=(3, 1))]
        state = a_state(lines, placed=placed)
        edits = ended(
            state, found_file("z", thing=3, text="x"), found_folder("w", thing=4), found_file("y", thing=2, text="n"),
            found_folder("v", thing=8), found_file("x", thing=1, text="x"))
        self.assertEqual([edit[:2] for edit in edits], [("write", (5, 0)), ("move", (6, 0)), ("write", (7, 0))])
        self.assertEqual(edits[1][2], (
            ((4, 1), (4, 1), in_root("w")), ((3, 1), (3, 1), in_root("z")), ((2, 1), (2, 1), in_root("y")),
            ((1, 1), (1, 1), in_root("x")),
        ))
        self.assertEqual(edits[2], ("write", (7, 0), in_root("y"), mark("n"), (2, 1), ((2, 1),)))


class Folders(unittest.TestCase):
    LINES = (a_line((1, 1), "d"), a_line((2, 1), "a", text="x", inside=(1, 1)), a_line((3, 1), "e"))

    def state(self, **more):
        placed = [a_folder("d", thing=1, count=5, cuts=6, ids=((1, 1),), line=(1, 1), seen=False),
                  a_folder("e", thing=3, ids=((3, 1),), line=(3, 1)),
                  a_file("d", "a", thing=2, text="x", ids=((2, 1),), line=(2, 1))]
        return a_state(self.LINES, placed=placed, **more)

    def test_a_folder_that_was_renamed_with_what_stands_in_it(self):
        state = self.state(had=[(("d", "a"), ((2, 1),))])
        edits = ended(state, found_folder("e", thing=3), found_folder("f", thing=1), found_file("f", "a", thing=2, text="x"))
        self.assertEqual(edits, [("move", (4, 0), (((1, 1), (1, 1), in_root("f")),))])
        self.assertEqual(rows(state.placed)[1:], [
            (("f",), ("f",), 1, 5, 6, None, ((1, 1),), (1, 1), True),
            (("f", "a"), ("f", "a"), 2, 0, 0, mark("x"), ((2, 1),), (2, 1), True),
        ])
        self.assertEqual(state.had, [(("f", "a"), ((2, 1),))])

    def test_a_folder_that_was_moved_into_another_one(self):
        state = self.state()
        edits = ended(
            state, found_folder("e", thing=3), found_folder("e", "d", thing=1), found_file("e", "d", "a", thing=2, text="x"))
        self.assertEqual(edits, [("move", (4, 0), (((1, 1), (1, 1), ((3, 1), ("d",), ("e", "d"))),))])

    def test_a_folder_that_stands_for_nothing_is_not_moved(self):
        state = a_state(placed=[a_folder("d", thing=1)])
        edits = ended(state, found_folder("f", thing=1))
        self.assertEqual(edits, [("write", (1, 0), in_root("f"), None, None, ())])
        self.assertEqual([entry.path for entry in state.placed], [("f",)])

    def test_the_first_folder_with_the_thing_that_stands_for_a_head_and_was_not_found(self):
        lines = [a_line((1, 1), "a"), a_line((2, 1), "b"), a_line((3, 1), "c"), a_line((4, 1), "d")]
        placed = [a_folder("a", thing=5, ids=((1, 1),), line=(1, 1)), a_file("x", thing=5), a_folder("y", thing=5),
                  a_folder("c", thing=5, ids=((3, 1),), line=(3, 1)), a_folder("b", thing=5, ids=((2, 1),), line=(2, 1))]
        state = a_state(lines, placed=placed)
        edits = ended(state, found_folder("a", thing=6), found_folder("n", thing=5))
        self.assertEqual(edits[0], ("move", (5, 0), (((3, 1), (3, 1), in_root("n")),)))

    def test_a_folder_is_not_moved_to_where_a_folder_was_placed(self):
        state = self.state()
        edits = ended(state, found_folder("e", thing=1))
        self.assertEqual([edit[0] for edit in edits], ["drop"])
        self.assertEqual(state.placed[0].ids, ((3, 1),))

    def test_a_folder_is_moved_to_where_a_file_was_placed(self):
        state = a_state([a_line((1, 1), "d")], placed=[a_folder("d", thing=1, ids=((1, 1),), line=(1, 1)), a_file("f", thing=8)])
        edits = ended(state, found_folder("f", thing=1))
        self.assertEqual(edits[0], ("move", (2, 0), (((1, 1), (1, 1), in_root("f")),)))

    def test_what_programs_had_had_comes_along_with_folders_too(self):
        state = self.state(had=[(("d",), ((8, 8),)), (("f",), ((9, 9),))])
        ended(state, found_folder("e", thing=3), found_folder("f", thing=1), at_rest=True)
        self.assertEqual(state.had, [(("f",), ((8, 8),))])
        state = self.state(had=[(("f",), ((9, 9),)), (("z",), ((7, 7),))])
        ended(state, found_folder("e", thing=3), found_folder("f", thing=1), at_rest=True)
        self.assertEqual(state.had, [(("z",), ((7, 7),))])

    def test_a_file_takes_along_what_was_at_its_old_path_though_a_folder_came_there(self):
        lines = [a_line((1, 1), "d"), a_line((2, 1), "a", text="x", head=(6, 1))]
        placed = [a_folder("d", thing=1, ids=((1, 1),), line=(1, 1)),
                  a_file("a", thing=2, text="x", ids=((6, 1),), line=(2, 1))]
        state = a_state(lines, placed=placed, had=[(("a",), ((6, 1),))])
        edits = ended(state, found_folder("a", thing=1), found_file("b", thing=2, count=1, cuts=1, text="y"))
        self.assertEqual(edits, [
            ("move", (7, 0), (((1, 1), (1, 1), in_root("a")), ((6, 1), (2, 1), in_root("b")))),
            ("write", (8, 0), in_root("b"), mark("y"), (2, 1), ((6, 1),)),
        ])
        self.assertEqual(state.had, [(("b",), ((8, 0),))])
        state = a_state(lines, placed=placed, had=[(("a",), ((6, 1),))])
        ended(state, found_folder("a", thing=1), found_file("b", thing=2, text="x"))
        self.assertEqual(state.had, [(("b",), ((6, 1),))])


class Heads(unittest.TestCase):
    def test_all_heads_if_the_place_differs(self):
        lines = [a_line((1, 1), "a", text="x", head=(5, 1)), a_line((2, 1), "a", text="x"), a_line((3, 1), "q", text="x")]
        entry = a_file("a", thing=1, text="x", ids=((2, 1), (5, 1)), line=(1, 1))
        state = a_state(lines, placed=[entry])
        edits = ended(state, found_file("b", thing=1, text="x"))
        self.assertEqual(edits, [("move", (6, 0), (((2, 1), (2, 1), in_root("b")), ((5, 1), (1, 1), in_root("b"))))])

    def test_all_heads_if_only_what_is_below_differs(self):
        lines = [a_line((1, 1), "d"), a_line((2, 1), "a", text="x", inside=(1, 1))]
        placed = [a_folder("d", ids=((1, 1),), line=(1, 1)), a_file("d", "a", thing=2, text="x", ids=((2, 1),), line=(2, 1))]
        edits = ended(a_state(lines, placed=placed), found_folder("d"), found_file("d", "b", thing=2, text="x"))
        self.assertEqual(edits, [("move", (3, 0), (((2, 1), (2, 1), ((1, 1), ("b",), ("d", "b"))),))])

    def test_the_line_of_a_head(self):
        for line, named in [((7, 7), (7, 7)), (None, (9, 9))]:
            entry = a_file("a", thing=1, text="x", ids=((9, 9),), line=line)
            edits = ended(a_state(clock=9, placed=[entry]), found_file("b", thing=1, text="x"))
            self.assertEqual(edits, [("move", (10, 0), (((9, 9), named, in_root("b")),))])
        entry = a_file("a", thing=1, text="x", ids=((9, 9),), line=(7, 7))
        state = a_state([a_line((3, 3), "q", text="q", head=(9, 9))], placed=[entry])
        edits = ended(state, found_file("b", thing=1, text="x"))
        self.assertEqual(edits, [("move", (10, 0), (((9, 9), (3, 3), in_root("b")),))])

    def same_place(self, lines, ids, above=((1, 1),), names=("D", "a"), taken=()):
        """The heads that are moved when a file goes from one folder without heads to another one in the same folder.

        Both paths have the same place: inside the folder `top`, below it the names `D` and `a`.
        """
        placed = [a_folder("top", thing=1, ids=above, line=(1, 1)), a_folder("top", "d1", names=("top", "D"), thing=2),
                  a_folder("top", "d2", names=("top", "D"), thing=3),
                  a_file("top", "d1", "a", names=("top",) + names, thing=4, text="x", ids=ids, line=(8, 8))]
        state = a_state([a_line((1, 1), "top"), *lines], placed=placed, clock=20)
        edits = ended(
            state, found_folder("top"), found_folder("top", "d1", thing=2), found_folder("top", "d2", thing=3),
            found_file("top", "d2", "a", thing=4, text="x"), taken=taken)
        self.assertEqual([entry.path for entry in state.placed][-1], ("top", "d2", "a"))
        place = ((1, 1), ("D", "a"), ("top", "D", "a"))
        moved = [entry for edit in edits for entry in edit[2]]
        self.assertEqual([entry[2] for entry in moved], [place] * len(moved))
        return [entry[0] for entry in moved]

    def test_heads_that_stand_at_the_new_place_already(self):
        self.assertEqual(self.same_place([a_line((2, 1), "D", "a", text="x", inside=(1, 1))], ((2, 1),)), [])

    def test_heads_that_stand_there_inside_something_else(self):
        lines = [a_line((2, 1), "D", "a", text="x", inside=(1, 1)), a_line((3, 1), "top", "D", "a", text="x")]
        self.assertEqual(self.same_place(lines, ((2, 1), (3, 1))), [(3, 1)])

    def test_heads_that_stand_inside_another_head_of_the_nearest_folder(self):
        lines = [a_line((2, 1), "top"), a_line((3, 1), "D", "a", text="x", inside=(2, 1)),
                 a_line((4, 1), "D"), a_line((5, 1), "top", "D", "a", text="x")]
        self.assertEqual(self.same_place(lines, ((3, 1), (5, 1)), above=((1, 1), (2, 1))), [(5, 1)])
        self.assertEqual(self.same_place(lines, ((3, 1), (5, 1)), above=((1, 1),)), [(3, 1), (5, 1)])

    def test_heads_inside_a_head_of_the_nearest_folder_with_another_path_below(self):
        lines = [a_line((2, 1), "top"), a_line((3, 1), "D", inside=(2, 1)), a_line((4, 1), "a", text="x", inside=(3, 1))]
        self.assertEqual(self.same_place(lines, ((4, 1),), above=((1, 1), (2, 1))), [(4, 1)])

    def test_heads_that_stand_at_the_same_names_inside_a_head_that_stands_elsewhere(self):
        lines = [a_line((2, 1), "top", "D"), a_line((3, 1), "a", text="x", inside=(2, 1))]
        heads = self.same_place(lines, ((3, 1),), above=((1, 1), (2, 1)), taken=[("top",)])
        self.assertEqual(heads, [(3, 1)])

    def test_heads_whose_lines_stand_elsewhere_or_are_gone_are_not_moved(self):
        lines = [a_line((2, 1), "top", "E", "a", text="x"), a_line((3, 1), "top", "D", "b", text="x")]
        self.assertEqual(self.same_place(lines, ((2, 1), (3, 1), (9, 9))), [])

    def test_the_names_that_the_entry_had_count_and_not_those_that_it_gets(self):
        lines = [a_line((2, 1), "top", "D", "a", text="x"), a_line((3, 1), "top", "E", "a", text="x")]
        self.assertEqual(self.same_place(lines, ((2, 1), (3, 1)), names=("E", "a")), [(3, 1)])

    def test_the_root_is_no_nearest_folder(self):
        lines = [a_line((1, 1), "d"), a_line((2, 1), "a", text="x", inside=(1, 1)), a_line((3, 1), "d", "a", text="x")]
        placed = [a_folder("d1", names=("d",), thing=1), a_folder("d2", names=("d",), thing=2),
                  a_file("d1", "a", names=("d", "a"), thing=3, text="x", ids=((2, 1), (3, 1)), line=(2, 1))]
        state = a_state(lines, placed=placed)
        edits = ended(state, found_folder("d1"), found_folder("d2", thing=2), found_file("d2", "a", thing=3, text="x"))
        self.assertEqual(edits, [("move", (4, 0), (((2, 1), (2, 1), in_root("d", "a")),))])

    def test_a_place_that_settles_in_the_root(self):
        placed = [a_folder("top", thing=1, ids=((1, 1),), line=(1, 1)), a_folder("top", "d1", names=("top", "D"), thing=2),
                  a_folder("top", "d2", names=("top", "D"), thing=3),
                  a_file("top", "d1", "a", names=("top", "D", "a"), thing=4, text="x", ids=((2, 1),), line=(2, 1))]
        found = [found_folder("top"), found_folder("top", "d1", thing=2), found_folder("top", "d2", thing=3),
                 found_file("top", "d2", "a", thing=4, text="x")]
        # As the name is taken, no folder is shown at the path, and the folder stands for its heads as before.
        lines = [a_line((2, 1), "top", "D", "a", text="x")]
        self.assertEqual(ended(a_state(lines, placed=placed), *found, taken=[("top",)]), [])
        edits = ended(a_state([a_line((1, 1), "z"), *lines], placed=placed), *found, taken=[("top",)])
        place = ((1, 1), ("D", "a"), ("top", "D", "a"))
        self.assertEqual(edits, [("move", (3, 0), (((2, 1), (2, 1), place),))])


if __name__ == "__main__":
    unittest.main()
