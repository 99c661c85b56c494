"""Point 65: at the end of a scan, what was placed is put right with what is shown.

Nothing is joined here, as the scans are not at rest or the heads are not all known; see test_joining for that.
"""

import unittest

from keeps import a_file, a_folder, a_line, a_state, ended, found_file, found_folder, rows

ONE = a_line((1, 1), "a", text="x", head=(5, 1))
TWO = a_line((2, 1), "a", text="x", head=(4, 1))
THREE = a_line((3, 1), "a", text="x", head=(3, 1))


class Files(unittest.TestCase):
    def right(self, state, heads=(), at_rest=False, **found):
        """Ends a scan that found the file as it was placed, and returns the heads, the line and what programs had."""
        edits = ended(state, found_file("a", **{"text": "x", **found}), heads=heads, at_rest=at_rest)
        self.assertEqual(edits, [])
        return (state.placed[0].ids, state.placed[0].line, state.had)

    def test_heads_that_are_still_there_in_the_order_of_what_is_shown(self):
        state = a_state([ONE, TWO, THREE], placed=[a_file("a", text="x", ids=((5, 1), (9, 9), (4, 1)), line=(7, 7))])
        self.assertEqual(self.right(state), (((4, 1), (5, 1)), (1, 1), []))

    def test_heads_that_were_there_when_the_scan_started(self):
        state = a_state([ONE, TWO, THREE], placed=[a_file("a", text="x", ids=((5, 1),), line=(1, 1))])
        self.assertEqual(self.right(state, [(3, 1), (8, 8)]), (((3, 1), (5, 1)), (1, 1), []))

    def test_heads_that_came_meanwhile_do_not_count(self):
        state = a_state([TWO, THREE], placed=[a_file("a", text="x", ids=((9, 9),), line=(7, 7))])
        self.assertEqual(self.right(state), (((9, 9),), (7, 7), []))

    def test_a_file_for_which_none_is_left_stays_as_it_is(self):
        state = a_state([TWO], placed=[a_file("a", text="x", ids=((9, 9),), line=(7, 7))], had=[(("a",), ((9, 9),))])
        self.assertEqual(self.right(state), (((9, 9),), (7, 7), [(("a",), ((9, 9),))]))

    def test_nothing_is_shown_at_the_path_with_the_content(self):
        for line in [a_line((1, 1), "a", text="y"), a_line((1, 1), "b", text="x"), a_line((1, 1), "a")]:
            state = a_state([line], placed=[a_file("a", text="x", ids=((1, 1),), line=(7, 7))])
            self.assertEqual(self.right(state), (((1, 1),), (7, 7), []))

    def test_a_name_that_the_scan_found_taken_is_not_shown(self):
        state = a_state([ONE], placed=[a_file("a", text="x", ids=((5, 1), (9, 9)), line=(7, 7))])
        ended(state, found_file("a", text="x"), at_rest=False, taken=[("a",)])
        self.assertEqual((state.placed[0].ids, state.placed[0].line), (((5, 1), (9, 9)), (7, 7)))

    def test_the_taken_paths_from_before_do_not_count(self):
        state = a_state([ONE], placed=[a_file("a", text="x", ids=((5, 1), (9, 9)), line=(7, 7))], taken=[("a",)])
        self.assertEqual(self.right(state), (((5, 1),), (1, 1), []))

    def test_programs_that_had_the_old_heads_have_had_the_new_ones(self):
        had = [(("a",), ((5, 1), (9, 9))), (("b",), ((6, 6),))]
        state = a_state([ONE, TWO], placed=[a_file("a", text="x", ids=((5, 1), (9, 9)), line=(1, 1))], had=had)
        self.assertEqual(self.right(state), (((5, 1),), (1, 1), [(("b",), ((6, 6),)), (("a",), ((5, 1),))]))

    def test_programs_that_had_other_heads_have_had_the_same_as_before(self):
        for ids in [((9, 9), (5, 1)), ((5, 1),), ((9, 9),)]:
            had = [(("a",), ids), (("b",), ((6, 6),))]
            state = a_state([ONE, TWO], placed=[a_file("a", text="x", ids=((5, 1), (9, 9)), line=(1, 1))], had=had)
            self.assertEqual(self.right(state), (((5, 1),), (1, 1), had))

    def test_a_file_without_heads_where_programs_had_nothing(self):
        state = a_state([ONE], placed=[a_file("a", text="x")])
        self.assertEqual(self.right(state, [(5, 1)]), (((5, 1),), (1, 1), [(("a",), ((5, 1),))]))

    def test_heads_that_did_not_change_leave_what_programs_have_had_where_it_was(self):
        had = [(("a",), ((5, 1),)), (("b",), ((6, 6),))]
        state = a_state([ONE], placed=[a_file("a", text="x", ids=((5, 1),), line=(7, 7))], had=had)
        self.assertEqual(self.right(state), (((5, 1),), (1, 1), had))

    def test_a_file_without_a_mark_was_found(self):
        state = a_state([ONE], placed=[a_file("a", text="x", ids=((5, 1), (9, 9)), line=(1, 1), seen=False)])
        self.assertEqual(self.right(state, text=None), (((5, 1),), (1, 1), []))
        self.assertIs(state.placed[0].seen, False)

    def test_a_file_that_was_not_found_stays_as_it_is(self):
        for at_rest, found in [(False, []), (False, [found_folder("a", thing=1)]), (False, [found_file("b", text="x")])]:
            state = a_state([ONE], placed=[a_file("a", text="x", ids=((5, 1), (9, 9)), line=(7, 7), seen=False)])
            ended(state, *found, at_rest=at_rest)
            entry = [entry for entry in state.placed if entry.path == ("a",) and entry.content is not None][0]
            self.assertEqual((entry.ids, entry.line), (((5, 1), (9, 9)), (7, 7)))

    def test_each_entry_at_the_path_is_put_right_by_its_own_content(self):
        lines = [a_line((1, 1), "a"), a_line((2, 1), "b", text="x")]
        placed = [a_folder("a", ids=((1, 1), (9, 9))), a_file("a", text="x", thing=2, ids=((8, 8),), line=(8, 8))]
        state = a_state(lines, placed=placed)
        ended(state, found_folder("a"), found_file("a", thing=2, text="x"), at_rest=False)
        self.assertEqual([(entry.ids, entry.line) for entry in state.placed], [(((1, 1),), (1, 1)), (((8, 8),), (8, 8))])


class Moved(unittest.TestCase):
    """A thing that was found elsewhere counts as found, too, if the names were at rest."""

    def moved(self, *found, at_rest=True, placed=None, lines=(ONE, TWO)):
        entry = a_file("a", text="x", ids=((5, 1), (9, 9)), line=(7, 7), seen=False)
        state = a_state(lines, placed=[entry, *(placed or [])], had=[(("a",), ((5, 1), (9, 9)))])
        ended(state, *found, at_rest=at_rest)
        return state

    def test_a_file_at_another_path(self):
        state = self.moved(found_file("b", text="x"))
        self.assertEqual([(entry.path, entry.ids, entry.line) for entry in state.placed], [(("b",), ((5, 1),), (1, 1))])
        self.assertEqual(state.had, [(("b",), ((5, 1),))])

    def test_a_file_that_stands_for_nothing(self):
        state = a_state([ONE], placed=[a_file("a", text="x")])
        ended(state, found_file("b", text="x"), heads=[(5, 1)])
        self.assertEqual([(entry.path, entry.ids, entry.line) for entry in state.placed], [(("b",), ((5, 1),), (1, 1))])
        self.assertEqual(state.had, [(("b",), ((5, 1),))])

    def test_a_file_that_waits(self):
        state = self.moved(found_file("b"))
        self.assertEqual([(entry.path, entry.ids, entry.line) for entry in state.placed], [(("a",), ((5, 1),), (1, 1))])
        self.assertEqual(state.had, [(("a",), ((5, 1),))])

    def test_not_if_a_file_was_placed_there(self):
        state = self.moved(found_file("b", text="y"), placed=[a_file("b", thing=1, text="y")])
        self.assertEqual([edit for edit in state.know.rest if edit[0] == "drop"], [("drop", (6, 0), ((5, 1),))])
        self.assertEqual(state.had, [])

    def test_not_if_the_names_were_not_at_rest(self):
        state = self.moved(found_file("b", text="x"), at_rest=False)
        self.assertEqual(rows(state.placed)[1][6:8], (((5, 1), (9, 9)), (7, 7)))

    def test_a_folder_that_stands_for_a_head(self):
        lines = [a_line((1, 1), "d"), a_line((2, 1), "d")]
        state = a_state(lines, placed=[a_folder("d", thing=4, ids=((1, 1), (9, 9)), line=(7, 7))])
        ended(state, found_folder("e", thing=4))
        self.assertEqual(rows(state.placed), [(("e",), ("e",), 4, 0, 0, None, ((1, 1),), (1, 1), True)])

    def test_a_folder_for_which_nothing_is_left_is_not_moved(self):
        state = a_state([a_line((1, 1), "d")], placed=[a_folder("d", thing=4, ids=((9, 9),), line=(9, 9))])
        edits = ended(state, found_folder("e", thing=4))
        self.assertEqual(edits, [("write", (2, 0), (None, ("e",), ("e",)), None, None, ())])
        self.assertEqual(rows(state.placed), [(("e",), ("e",), 4, 0, 0, None, ((2, 0),), (2, 0), True)])

    def test_a_folder_that_stood_for_nothing_is_not_put_right_where_it_was_not_found(self):
        state = a_state([a_line((1, 1), "d")], placed=[a_folder("d", thing=4)])
        edits = ended(state, found_folder("e", thing=4), heads=[(1, 1)])
        self.assertEqual(edits, [("write", (2, 0), (None, ("e",), ("e",)), None, None, ())])


class Folders(unittest.TestCase):
    LINES = (a_line((1, 1), "d"), a_line((2, 1), "d"), a_line((3, 1), "d"))

    def right(self, ids, line, heads=(), lines=LINES):
        state = a_state(lines, placed=[a_folder("d", ids=ids, line=line)], had=[(("d",), ids)] if ids else [])
        before = list(state.had)
        self.assertEqual(ended(state, found_folder("d"), heads=heads, at_rest=False), [])
        self.assertEqual(state.had, before)
        return (state.placed[0].ids, state.placed[0].line)

    def test_heads_that_are_still_there(self):
        self.assertEqual(self.right(((3, 1), (9, 9), (2, 1)), (9, 9)), (((2, 1), (3, 1)), (1, 1)))

    def test_heads_that_were_there_when_the_scan_started(self):
        self.assertEqual(self.right(((3, 1),), (3, 1), [(1, 1)]), (((1, 1), (3, 1)), (1, 1)))
        self.assertEqual(self.right((), None, [(2, 1)]), (((2, 1),), (1, 1)))

    def test_none_is_left_and_it_stands_for_nothing(self):
        self.assertEqual(self.right(((9, 9),), (9, 9)), ((), None))
        self.assertEqual(self.right(((9, 9),), (9, 9), lines=[a_line((1, 1), "d", "a", text="x")]), ((), None))

    def test_no_folder_is_shown_and_it_stays_as_it_is(self):
        self.assertEqual(self.right(((9, 9),), (9, 9), lines=[]), (((9, 9),), (9, 9)))
        self.assertEqual(self.right(((9, 9),), (9, 9), lines=[a_line((9, 9), "d", text="x")]), (((9, 9),), (9, 9)))


if __name__ == "__main__":
    unittest.main()
