"""Points 69, 70 and 72: what a scan did not find any more."""

import unittest

from keeps import a_file, a_folder, a_line, a_state, ended, found_file, found_folder, mark, rows


def dropped(edits):
    """The heads that are dropped by the only edit that drops some; None if there is none."""
    drops = [edit[2] for edit in edits if edit[0] == "drop"]
    assert len(drops) < 2
    return drops[0] if drops else None


class Missing(unittest.TestCase):
    def one(self, entry, *found, at_rest=True, more=(), lines=None):
        if lines is None:
            lines = [a_line((1, 1), "a", text="x")]
        state = a_state(lines, placed=[entry, *more], clock=9)
        return (dropped(ended(state, *found, at_rest=at_rest)), [entry.path for entry in state.placed])

    def test_a_file_that_was_not_found(self):
        entry = a_file("a", thing=3, text="x", ids=((1, 1),), line=(1, 1))
        self.assertEqual(self.one(entry), (((1, 1),), []))

    def test_a_file_at_whose_path_a_folder_was_found(self):
        entry = a_file("a", thing=3, text="x", ids=((1, 1),), line=(1, 1))
        gone, placed = self.one(entry, found_folder("a", thing=3))
        self.assertEqual((gone, placed), (((1, 1),), [("a",)]))

    def test_a_file_whose_thing_was_found_where_a_file_was_placed(self):
        entry = a_file("a", thing=3, text="x", ids=((1, 1),), line=(1, 1))
        gone, placed = self.one(entry, found_file("b", thing=3, text="y"), more=[a_file("b", thing=3, text="y")])
        self.assertEqual((gone, placed), (((1, 1),), [("b",)]))

    def test_a_file_whose_thing_was_found_as_a_folder(self):
        entry = a_file("a", thing=3, text="x", ids=((1, 1),), line=(1, 1))
        self.assertEqual(self.one(entry, found_folder("b", thing=3)), (((1, 1),), [("b",)]))

    def test_a_file_that_was_found_or_moved_or_waits_is_not_missing(self):
        entry = a_file("a", thing=3, text="x", ids=((1, 1),), line=(1, 1))
        for found in [found_file("a", thing=9, text="x"), found_file("a", thing=9), found_file("b", thing=3, text="x"),
                      found_file("b", thing=3)]:
            self.assertIsNone(self.one(entry, found)[0])

    def test_a_second_file_with_the_thing_that_was_found_elsewhere_is_not_missing(self):
        more = [a_file("c", thing=3, text="y", ids=((2, 1),), line=(2, 1))]
        entry = a_file("a", thing=3, text="x", ids=((1, 1),), line=(1, 1))
        lines = [a_line((1, 1), "a", text="x"), a_line((2, 1), "c", text="y")]
        self.assertEqual(self.one(entry, found_file("b", thing=3, text="x"), more=more, lines=lines), (None, [("b",)]))

    def test_a_folder_that_was_not_found(self):
        entry = a_folder("d", thing=3, ids=((1, 1),), line=(1, 1))
        lines = [a_line((1, 1), "d")]
        self.assertEqual(self.one(entry, lines=lines), (((1, 1),), []))
        self.assertEqual(self.one(entry, found_file("d", thing=3, text="y"), lines=lines), (((1, 1),), [("d",)]))
        self.assertEqual(self.one(entry, found_folder("e", thing=3), lines=lines), (None, [("e",)]))

    def test_a_folder_without_heads_whose_thing_was_found_elsewhere_is_not_missing(self):
        state = a_state([a_line((1, 1), "d", "a", text="x")], placed=[a_folder("d", thing=3)], had=[(("d",), ((7, 7),))])
        self.assertIsNone(dropped(ended(state, found_folder("e", thing=3))))
        self.assertEqual(state.had, [(("d",), ((7, 7),))])
        state = a_state([a_line((1, 1), "d", "a", text="x")], placed=[a_folder("d", thing=3)], had=[(("d",), ((7, 7),))])
        self.assertIsNone(dropped(ended(state, found_folder("e", thing=4))))
        self.assertEqual(state.had, [])

    def test_nothing_is_dropped_if_the_names_were_not_at_rest(self):
        entry = a_file("a", thing=3, text="x", ids=((1, 1),), line=(1, 1))
        self.assertEqual(self.one(entry, at_rest=False), (None, [("a",)]))


class Removed(unittest.TestCase):
    """Whether a missing entry was removed shows in what is dropped, and in what programs have had."""

    def removed(self, entry, *found, more=(), lines=()):
        lines = [((1, 1), (1, 1), None, entry.path, entry.content), *lines]
        state = a_state(lines, placed=[entry, *more], had=[(entry.path, ((1, 1),))], clock=9)
        edits = ended(state, *found)
        self.assertNotIn(entry.path, [left.path for left in state.placed])
        self.assertEqual(dropped(edits) is not None, state.had == [])
        return state.had == []

    def test_files(self):
        for seen in [True, False]:
            self.assertTrue(self.removed(a_file("a", ids=((1, 1),), seen=seen)))
            self.assertTrue(self.removed(a_file("d", "e", "a", ids=((1, 1),), seen=seen)))

    def test_an_empty_name_in_the_path_of_a_file(self):
        for path in [("a", ""), ("", "a"), ("a", "", "b")]:
            self.assertTrue(self.removed(a_file(*path, ids=((1, 1),), seen=True)))
            self.assertFalse(self.removed(a_file(*path, ids=((1, 1),), seen=False)))

    def test_a_folder_that_a_scan_has_seen(self):
        self.assertTrue(self.removed(a_folder("d", ids=((1, 1),), seen=True)))
        self.assertTrue(self.removed(a_folder("x", "", ids=((1, 1),), seen=True)))

    def test_a_folder_that_no_scan_has_seen_with_nothing_below_it(self):
        entry = a_folder("d", ids=((1, 1),), seen=False)
        self.assertFalse(self.removed(entry))
        self.assertFalse(self.removed(entry, more=[a_folder("d", "e", thing=4, seen=False)]))
        self.assertFalse(self.removed(entry, more=[a_file("dd", thing=5), a_file("e", "d", thing=6), a_folder("d", "e", thing=7)]))

    def test_a_folder_that_no_scan_has_seen_with_a_file_below_it(self):
        entry = a_folder("d", ids=((1, 1),), seen=False)
        for path in [("d", "a"), ("d", "e", "a")]:
            for seen in [True, False]:
                self.assertTrue(self.removed(entry, more=[a_file(*path, thing=4, seen=seen)]))
            self.assertTrue(self.removed(entry, found_file("b", thing=4, text=""), more=[a_file(*path, thing=4)]))

    def test_an_empty_name_in_the_path_of_a_folder(self):
        for path in [("", "d"), ("d", "")]:
            entry = a_folder(*path, ids=((1, 1),), seen=False)
            self.assertFalse(self.removed(entry, found_folder("", thing=9), found_folder("d", thing=8), more=[
                a_file(*path, "a", thing=4), a_folder("", thing=9), a_folder("d", thing=8)]))

    def test_folders_above_that_were_found(self):
        entry = a_folder("c", "d", "e", ids=((1, 1),), seen=False)
        more = [a_file("c", "d", "e", "a", thing=4)]
        both = [found_folder("c", thing=7), found_folder("c", "d", thing=8)]
        self.assertTrue(self.removed(entry, *both, more=more))
        self.assertFalse(self.removed(entry, both[0], more=more))
        self.assertFalse(self.removed(entry, both[1], more=more))
        self.assertFalse(self.removed(entry, both[0], found_file("c", "d", thing=8, text="x"), more=more))

    def test_folders_above_that_are_missing(self):
        entry = a_folder("c", "d", "e", ids=((1, 1),), seen=False)
        more = [a_file("c", "d", "e", "a", thing=4), a_folder("c", "d", thing=8, seen=False)]
        self.assertTrue(self.removed(entry, found_folder("c", thing=7), more=more))
        self.assertFalse(self.removed(entry, more=more))
        self.assertTrue(self.removed(entry, more=more + [a_folder("c", thing=7, seen=False)]))
        self.assertFalse(self.removed(entry, more=more + [a_file("c", thing=7, seen=False)]))

    def test_folders_above_that_were_moved(self):
        entry = a_folder("c", "d", ids=((1, 1),), seen=False)
        more = [a_file("c", "d", "a", thing=4), a_folder("c", thing=7, ids=((2, 1),))]
        lines = [a_line((2, 1), "c")]
        self.assertFalse(self.removed(entry, found_folder("z", thing=7), more=more, lines=lines))
        self.assertTrue(self.removed(entry, found_folder("z", thing=6), more=more, lines=lines))

    def test_folders_above_without_heads_whose_things_were_found_elsewhere(self):
        entry = a_folder("c", "d", ids=((1, 1),), seen=False)
        more = [a_file("c", "d", "a", thing=4), a_folder("c", thing=7)]
        self.assertFalse(self.removed(entry, found_folder("z", thing=7), more=more))

    def test_what_is_missing_but_was_not_removed_is_not_placed_any_more(self):
        state = a_state([a_line((1, 1), "d")], placed=[a_folder("d", ids=((1, 1),), line=(1, 1), seen=False)])
        self.assertEqual(ended(state), [])
        self.assertEqual(state.placed, [])
        self.assertEqual(state.know.lines(), [a_line((1, 1), "d")])


class Dropped(unittest.TestCase):
    def test_heads_that_are_shown_at_the_path(self):
        lines = [a_line((1, 1), "a", text="x"), a_line((2, 1), "a", text="x"), a_line((3, 1), "a", text="x"), a_line((4, 1), "q", text="x")]
        state = a_state(lines, placed=[a_file("a", text="x", ids=((3, 1), (4, 1), (1, 1)), line=(1, 1))])
        self.assertEqual(dropped(ended(state)), ((3, 1), (1, 1)))
        self.assertEqual(state.know.lines(), [lines[1], lines[3]])

    def test_none_of_them_is_shown_at_the_path(self):
        lines = [a_line((1, 1), "a", text="x"), a_line((2, 1), "b", text="x")]
        state = a_state(lines, placed=[a_file("a", text="x", ids=((2, 1),), line=(1, 1))])
        self.assertEqual(ended(state), [])

    def test_nothing_is_shown_at_the_path(self):
        for line in [a_line((2, 1), "a", text="y"), a_line((2, 1), "b", text="x"), a_line((2, 1), "a")]:
            state = a_state([line], placed=[a_file("a", text="x", ids=((2, 1), (1, 1)), line=(1, 1))])
            self.assertEqual(dropped(ended(state)), ((2, 1), (1, 1)))

    def test_a_head_for_which_something_else_stands_that_is_shown_with_it(self):
        lines = [a_line((1, 1), "b", text="x"), a_line((2, 1), "q", text="y")]
        placed = [a_file("a", text="x", thing=1, ids=((1, 1), (2, 1)), line=(1, 1)),
                  a_file("b", text="x", thing=2, ids=((1, 1),), line=(1, 1))]
        state = a_state(lines, placed=placed)
        self.assertEqual(dropped(ended(state, found_file("b", thing=2, text="x"))), ((2, 1),))

    def test_a_folder_for_whose_head_another_one_stands(self):
        placed = [a_folder("d", thing=1, ids=((1, 1),), line=(1, 1)), a_folder("e", thing=2, ids=((1, 1),), line=(1, 1))]
        state = a_state([a_line((1, 1), "e")], placed=placed)
        self.assertEqual(ended(state, found_folder("e", thing=2)), [])
        state = a_state([a_line((1, 1), "e")], placed=placed)
        self.assertEqual(dropped(ended(state)), ((1, 1), (1, 1)))

    def test_what_stands_for_the_head_must_be_shown_with_it(self):
        placed = [a_file("a", text="x", thing=1, ids=((1, 1),), line=(1, 1)),
                  a_file("b", text="x", thing=2, ids=((1, 1), (2, 1)), line=(1, 1))]
        for lines, gone in [
            ([a_line((1, 1), "c", text="x")], ((1, 1),)),
            ([a_line((1, 1), "b", text="y")], ((1, 1),)),
            ([a_line((1, 1), "c", text="x"), a_line((2, 1), "b", text="x")], ((1, 1),)),
            ([a_line((1, 1), "b", text="x")], None),
        ]:
            state = a_state(lines, placed=placed)
            self.assertEqual(dropped(ended(state, found_file("b", thing=2, text="x"))), gone)

    def test_what_stands_for_the_head_is_shown_without_it_after_a_write(self):
        lines = [a_line((1, 1), "b", text="x"), a_line((2, 1), "b", text="x")]
        placed = [a_file("a", text="x", thing=1, ids=((2, 1),)), a_file("b", text="x", thing=2, ids=((1, 1), (2, 1))),
                  a_file("c", text="x", thing=3, ids=((2, 1),), line=(2, 1))]
        state = a_state(lines, placed=placed)
        edits = ended(state, found_file("b", thing=2, text="x"), found_file("c", thing=3, text="y"))
        self.assertEqual([edit[0] for edit in edits], ["write", "drop"])
        self.assertEqual(dropped(edits), ((2, 1),))

    def test_what_waits_stands_for_its_heads_too(self):
        placed = [a_file("a", text="x", thing=1, ids=((1, 1),), line=(1, 1)),
                  a_file("b", text="x", thing=2, ids=((1, 1),), line=(1, 1))]
        state = a_state([a_line((1, 1), "b", text="x")], placed=placed)
        self.assertEqual(ended(state, found_file("c", thing=2)), [])
        self.assertEqual([entry.path for entry in state.placed], [("b",)])

    def test_what_else_stands_for_the_head_does_not_count_where_the_removed_entry_itself_is_shown(self):
        placed = [a_file("a", text="x", thing=1, ids=((1, 1),), line=(1, 1)),
                  a_file("b", text="x", thing=2, ids=((1, 1),), line=(1, 1))]
        state = a_state([a_line((1, 1), "a", text="x")], placed=placed)
        self.assertEqual(dropped(ended(state, found_file("b", thing=2, text="x"))), ((1, 1),))

    def test_entries_in_their_order_and_a_head_of_two_of_them_twice(self):
        lines = [a_line((1, 1), "z", text="x"), a_line((2, 1), "d")]
        placed = [a_file("b", text="x", thing=1, ids=((3, 1), (1, 1))), a_folder("d", thing=2, ids=((2, 1),)),
                  a_file("a", text="x", thing=3, ids=((1, 1),))]
        state = a_state(lines, placed=placed, clock=3)
        self.assertEqual(ended(state), [("drop", (4, 0), ((3, 1), (1, 1), (2, 1), (1, 1)))])
        self.assertEqual(state.know.lines(), [])

    def test_no_edit_without_heads(self):
        state = a_state(placed=[a_file("a"), a_folder("d")])
        self.assertEqual(ended(state), [])
        self.assertEqual(state.placed, [])

    def test_the_tree_is_that_of_the_lines_after_the_writes_and_with_the_taken_paths(self):
        # The write gives the path to another content, so that nothing with the old one is shown there.
        lines = [a_line((1, 1), "a", text="x"), a_line((2, 1), "b", text="x")]
        placed = [a_file("a", text="x", thing=1, ids=((1, 1),), line=(1, 1)),
                  a_file("b", text="x", thing=2, ids=((1, 1), (2, 1)), line=(1, 1))]
        state = a_state(lines, placed=placed)
        edits = ended(state, found_file("b", thing=2, count=1, text="y"))
        self.assertEqual(edits[0], ("write", (3, 0), (None, ("b",), ("b",)), mark("y"), (2, 1), ((2, 1),)))
        self.assertEqual(dropped(edits), ((1, 1),))
        # Where the name is taken, the file is shown elsewhere, and so all heads count.
        lines = [a_line((1, 1), "a", text="x")]
        state = a_state(lines, placed=[a_file("a", text="x", ids=((1, 1), (9, 9)), line=(1, 1))], clock=9)
        self.assertEqual(dropped(ended(state, taken=[("a",)])), ((1, 1), (9, 9)))

    def test_the_heads_were_not_put_right_as_the_entry_was_not_found(self):
        lines = [a_line((1, 1), "a", text="x"), a_line((2, 1), "a", text="x")]
        state = a_state(lines, placed=[a_file("a", text="x", ids=((1, 1),), line=(1, 1))])
        self.assertEqual(dropped(ended(state, heads=[(1, 1), (2, 1)])), ((1, 1),))

    def test_an_own_drop_comes_after_the_writes(self):
        state = a_state([a_line((1, 1), "a", text="x")], placed=[a_file("a", text="x", ids=((1, 1),), line=(1, 1))])
        edits = ended(state, found_file("b", thing=9, text="n"), found_folder("d", thing=8))
        self.assertEqual([edit[:2] for edit in edits], [("write", (2, 0)), ("write", (3, 0)), ("drop", (4, 0))])

    def test_programs_have_nothing_any_more_at_these_paths(self):
        placed = [a_file("a", thing=1, ids=((1, 1),)), a_folder("d", thing=2, ids=((2, 1),)), a_file("b", thing=3)]
        had = [(("a",), ((1, 1),)), (("b",), ((3, 1),)), (("c",), ((4, 1),)), (("d",), ((5, 1),))]
        state = a_state(placed=placed, had=had)
        ended(state)
        self.assertEqual(state.had, [(("c",), ((4, 1),))])

    def test_also_where_something_else_was_found_at_the_path(self):
        state = a_state([a_line((1, 1), "d")], placed=[a_folder("d", thing=1, ids=((1, 1),), line=(1, 1))])
        edits = ended(state, found_file("d", thing=2, text="x"))
        self.assertEqual([edit[0] for edit in edits], ["write", "drop"])
        self.assertEqual(state.had, [])


class Waiting(unittest.TestCase):
    ENTRY = a_file("a", thing=3, count=4, text="x", ids=((1, 1),), line=(1, 1), seen=False)
    LINES = (a_line((1, 1), "a", text="x"), a_line((2, 1), "a", text="x"))

    def left(self, *found, at_rest=True, more=()):
        state = a_state(self.LINES, placed=[self.ENTRY, *more], had=[(("a",), ((1, 1),))], clock=9)
        edits = ended(state, *found, at_rest=at_rest, heads=[(1, 1), (2, 1)])
        return (state, edits)

    def test_a_file_that_waits_stays_after_all_others(self):
        state, edits = self.left(found_file("b", thing=3), found_file("c", thing=5, text="c"), found_folder("d", thing=6))
        self.assertEqual([edit[0] for edit in edits], ["write", "write"])
        self.assertEqual([entry.path for entry in state.placed], [("d",), ("c",), ("a",)])
        row = rows(state.placed)[2]
        self.assertEqual(row, (("a",), ("a",), 3, 4, 0, mark("x"), ((1, 1), (2, 1)), (1, 1), False))
        self.assertEqual(state.had, [(("a",), ((1, 1), (2, 1))), (("c",), ((11, 0),))])

    def test_several_that_wait_keep_their_order(self):
        more = [a_file("b", thing=4, ids=((8, 8),)), a_file("0", thing=5, ids=((9, 9),))]
        state, _ = self.left(found_file("z", thing=5), found_file("y", thing=4), found_file("x", thing=3), more=more)
        self.assertEqual([entry.path for entry in state.placed], [("a",), ("b",), ("0",)])

    def test_a_file_that_was_found_with_a_mark_too_does_not_wait(self):
        for found in [[found_file("b", thing=3), found_file("c", thing=3, text="x")],
                      [found_file("c", thing=3, text="x"), found_file("b", thing=3)]]:
            state, edits = self.left(*found)
            self.assertEqual([edit[0] for edit in edits], ["move"])
            self.assertEqual([entry.path for entry in state.placed], [("c",)])

    def test_a_file_at_whose_path_a_file_was_found_does_not_wait(self):
        state, _ = self.left(found_file("a", thing=9, text="x"), found_file("b", thing=3))
        self.assertEqual([entry.path for entry in state.placed], [("a",)])
        self.assertIs(state.placed[0].seen, True)

    def test_a_file_that_was_found_where_a_file_was_placed_does_not_wait(self):
        state, edits = self.left(found_file("b", thing=3), more=[a_file("b", thing=7)])
        self.assertEqual(dropped(edits), ((1, 1),))
        self.assertEqual([entry.path for entry in state.placed], [("b",)])

    def test_it_was_found_with_a_mark_only_where_a_file_was_placed(self):
        state, edits = self.left(
            found_file("c", thing=3, text=""), found_file("b", thing=3), more=[a_file("c", thing=7)])
        self.assertEqual(edits, [])
        self.assertEqual([entry.path for entry in state.placed], [("c",), ("a",)])

    def test_a_folder_without_a_mark_is_no_file(self):
        state, edits = self.left(found_folder("b", thing=3))
        self.assertEqual(dropped(edits), ((1, 1),))

    def test_a_folder_does_not_wait(self):
        state = a_state([a_line((1, 1), "d")], placed=[a_folder("d", thing=3, ids=((1, 1),), line=(1, 1))])
        self.assertEqual(dropped(ended(state, found_file("b", thing=3))), ((1, 1),))
        self.assertEqual(state.placed, [])

    def test_it_stays_as_one_that_is_missing_if_the_names_were_not_at_rest(self):
        state, edits = self.left(found_file("b", thing=3), at_rest=False)
        self.assertEqual(edits, [])
        self.assertEqual(rows(state.placed), rows([self.ENTRY]))

    def test_files_that_wait_are_not_joined(self):
        lines = [a_line((1, 1), "a", text="x"), a_line((2, 1), "a", text="x")]
        entry = a_file("a", thing=3, text="x", ids=((8, 8),), line=(8, 8), seen=True)
        state = a_state(lines, placed=[entry], clock=9)
        self.assertEqual(ended(state, found_file("b", thing=3)), [])
        self.assertEqual(rows(state.placed), rows([entry]))


if __name__ == "__main__":
    unittest.main()
