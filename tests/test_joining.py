"""Point 71: equal heads are joined at the end of a scan that was at rest."""

import unittest

from keeps import a_file, a_folder, a_line, a_state, ended, found_file, found_folder, mark


class Files(unittest.TestCase):
    """A new file, that the scan tells of itself, beside what other devices wrote."""

    OTHERS = (a_line((1, 1), "a", text="x"), a_line((2, 2), "a", text="x"))

    def joined(self, lines, *, heads, at_rest=True, **more):
        state = a_state(lines, clock=5, **more)
        ended(state, found_file("a", text="x"), heads=heads, at_rest=at_rest)
        entry = state.placed[-1]
        return (entry.ids, entry.line, state.had)

    def test_heads_that_were_there_when_the_scan_started(self):
        ids = ((1, 1), (2, 2), (6, 0))
        self.assertEqual(self.joined(self.OTHERS, heads=[(2, 2), (1, 1)]), (ids, (1, 1), [(("a",), ids)]))

    def test_heads_that_came_meanwhile_are_not_joined(self):
        ids = ((2, 2), (6, 0))
        self.assertEqual(self.joined(self.OTHERS, heads=[(2, 2)]), (ids, (1, 1), [(("a",), ids)]))
        self.assertEqual(self.joined(self.OTHERS, heads=[]), (((6, 0),), (1, 1), [(("a",), ((6, 0),))]))

    def test_not_if_the_names_were_not_at_rest(self):
        self.assertEqual(
            self.joined(self.OTHERS, heads=[(1, 1), (2, 2)], at_rest=False), (((6, 0),), (6, 0), [(("a",), ((6, 0),))]))

    def test_nothing_is_shown_with_the_path_and_the_content(self):
        state = a_state([a_line((1, 1), "a", text="y"), a_line((2, 1), "a (6-0)", text="z")], clock=5)
        ended(state, found_file("a", text="x"), heads=[(1, 1), (2, 1)])
        self.assertEqual((state.placed[0].ids, state.placed[0].line), (((6, 0),), (6, 0)))

    def test_not_if_one_of_its_heads_is_not_shown_there(self):
        # The file was removed elsewhere and something equal came meanwhile, so that it stays as it is.
        state = a_state([a_line((1, 1), "a", text="x")], placed=[a_file("a", text="x", ids=((9, 9),), line=(9, 9))], clock=9)
        ended(state, found_file("a", text="x"))
        self.assertEqual((state.placed[0].ids, state.placed[0].line), (((9, 9),), (9, 9)))

    def test_not_if_one_of_its_heads_was_replaced_by_this_scan(self):
        lines = [a_line((1, 1), "a", text="x"), a_line((2, 1), "a", text="x")]
        placed = [a_file("a", text="x", thing=1, ids=((1, 1), (2, 1)), line=(1, 1)),
                  a_file("b", text="w", thing=2, ids=((2, 1),), line=(2, 1))]
        state = a_state(lines, placed=placed)
        edits = ended(state, found_file("a", thing=1, text="x"), found_file("b", thing=2, text="y"))
        self.assertEqual(edits[0][4:], ((2, 1), ((2, 1),)))
        self.assertEqual((state.placed[0].ids, state.placed[0].line), (((1, 1), (2, 1)), (1, 1)))

    def test_heads_that_this_scan_drops_are_not_joined(self):
        state = a_state([a_line((1, 1), "a", text="x")], placed=[a_file("b", text="x", thing=2, ids=((1, 1),), line=(1, 1))])
        edits = ended(state, found_file("a", thing=9, text="x"), heads=[(1, 1)])
        self.assertEqual([edit[0] for edit in edits], ["write", "drop"])
        self.assertEqual((state.placed[0].ids, state.placed[0].line), (((2, 0),), (2, 0)))

    def test_programs_that_had_other_heads_have_had_the_same_as_before(self):
        lines = [a_line((1, 1), "a", text="x"), a_line((2, 1), "a", text="x")]
        entry = a_file("a", text="x", ids=((1, 1), (2, 1)), line=(1, 1))
        state = a_state(lines, placed=[entry], had=[(("a",), ((1, 1),)), (("b",), ((3, 3),))])
        ended(state, found_file("a", text="x"), heads=[(1, 1), (2, 1)])
        self.assertEqual(state.had, [(("a",), ((1, 1),)), (("b",), ((3, 3),))])

    def test_what_programs_have_had_comes_to_the_end_even_if_it_is_the_same(self):
        entry = a_file("a", text="x", ids=((1, 1),), line=(1, 1))
        state = a_state(self.OTHERS[:1], placed=[entry], had=[(("a",), ((1, 1),)), (("b",), ((3, 3),))])
        ended(state, found_file("a", text="x"))
        self.assertEqual(state.had, [(("b",), ((3, 3),)), (("a",), ((1, 1),))])
        state = a_state(self.OTHERS[:1], placed=[entry], had=[(("a",), ((1, 1),)), (("b",), ((3, 3),))])
        ended(state, found_file("a", text="x"), at_rest=False)
        self.assertEqual(state.had, [(("a",), ((1, 1),)), (("b",), ((3, 3),))])

    def test_each_file_in_order(self):
        lines = [a_line((1, 1), "a", text="x"), a_line((2, 1), "b", text="y")]
        placed = [a_file("a", text="x", ids=((1, 1),)), a_file("b", text="y", ids=((2, 1),))]
        had = [(("b",), ((2, 1),)), (("a",), ((1, 1),))]
        state = a_state(lines, placed=placed, had=had)
        ended(state, found_file("b", text="y"), found_file("a", text="x"))
        self.assertEqual(state.had, had)
        state = a_state(lines, placed=placed, had=had)
        ended(state, found_file("a", text="x"), found_file("b", text="y"))
        self.assertEqual(state.had, had[::-1])


class MovedThere(unittest.TestCase):
    """Heads that an edit of this scan brought to a path are joined there."""

    def test_a_file_moved_to_the_path_of_an_equal_line(self):
        lines = [a_line((1, 1), "a", text="x"), a_line((2, 1), "b", text="x")]
        state = a_state(lines, placed=[a_file("a", text="x", ids=((1, 1),), line=(1, 1))], had=[(("a",), ((1, 1),))])
        edits = ended(state, found_file("b", text="x"), heads=[(1, 1), (2, 1)])
        self.assertEqual(edits, [("move", (3, 0), (((1, 1), (1, 1), (None, ("b",), ("b",))),))])
        self.assertEqual((state.placed[0].ids, state.placed[0].line), (((1, 1), (2, 1)), (1, 1)))
        self.assertEqual(state.had, [(("b",), ((1, 1), (2, 1)))])

    def test_a_file_that_stays_as_it_is_joins_only_if_a_scan_has_seen_it(self):
        lines = [a_line((1, 1), "d"), a_line((2, 1), "e", "z", text="x"),
                 a_line((3, 1), "z", text="x", inside=(1, 1), head=(1, 2))]
        for seen, ids in [(True, ((1, 2), (2, 1))), (False, ((2, 1),))]:
            placed = [a_folder("d", thing=1, ids=((1, 1),), line=(1, 1)),
                      a_file("e", "z", thing=2, text="x", ids=((2, 1),), line=(2, 1), seen=seen)]
            state = a_state(lines, placed=placed)
            # The folder is renamed, which brings the other line to the path of the file.
            edits = ended(state, found_folder("e", thing=1), found_file("e", "z", thing=2), heads=[(2, 1), (1, 2)])
            self.assertEqual([edit[0] for edit in edits], ["move"])
            self.assertEqual(state.placed[1].ids, ids)


class Folders(unittest.TestCase):
    def test_folders_are_joined_and_programs_have_nothing_there(self):
        state = a_state([a_line((1, 1), "d"), a_line((2, 1), "d")], clock=5)
        ended(state, found_folder("d"), heads=[(1, 1)])
        self.assertEqual((state.placed[0].ids, state.placed[0].line), (((1, 1), (6, 0)), (1, 1)))
        self.assertEqual(state.had, [])

    def test_what_programs_had_at_the_path_of_a_folder_stays(self):
        state = a_state([a_line((1, 1), "d")], placed=[a_folder("d", ids=((1, 1),))], had=[(("d",), ((1, 1),)), (("e",), ((2, 2),))])
        ended(state, found_folder("d"))
        self.assertEqual(state.had, [(("d",), ((1, 1),)), (("e",), ((2, 2),))])

    def test_a_folder_that_stands_for_nothing_where_nothing_is_shown(self):
        placed = [a_folder("e", thing=2), a_folder("d", thing=1, ids=((1, 1),), line=(1, 1))]
        state = a_state([a_line((1, 1), "d")], placed=placed)
        ended(state, found_folder("e", thing=2), found_folder("x", thing=1), heads=[(1, 1)])
        self.assertEqual([(entry.ids, entry.line) for entry in state.placed], [((), None), (((1, 1),), (1, 1))])

    def test_a_folder_that_stands_for_nothing_where_a_move_brought_a_folder_line(self):
        lines = [a_line((1, 1), "q"), a_line((2, 1), "e", inside=(1, 1))]
        for heads, ids, line in [([(1, 1), (2, 1)], ((2, 1),), (2, 1)), ([(1, 1)], (), None)]:
            placed = [a_folder("q", thing=2, ids=((1, 1),), line=(1, 1)), a_folder("r", "e", thing=3)]
            state = a_state(lines, placed=placed)
            edits = ended(state, found_folder("r", thing=2), found_folder("r", "e", thing=3), heads=heads)
            self.assertEqual([edit[0] for edit in edits], ["move"])
            self.assertEqual((state.placed[1].ids, state.placed[1].line), (ids, line))

    def test_the_line_is_the_one_that_is_shown(self):
        state = a_state([a_line((1, 1), "d"), a_line((2, 1), "d")], placed=[a_folder("d", ids=((2, 1),), line=(8, 8))])
        ended(state, found_folder("d"))
        self.assertEqual((state.placed[0].ids, state.placed[0].line), (((2, 1),), (1, 1)))

    def test_the_taken_paths_of_the_scan_count(self):
        state = a_state([a_line((1, 1), "d")], clock=5)
        ended(state, found_folder("d"), heads=[(1, 1)], taken=[("d",)])
        self.assertEqual((state.placed[0].ids, state.placed[0].line), (((6, 0),), (6, 0)))
        state = a_state([a_line((1, 1), "d", text="x")], taken=[("d",)], clock=5)
        ended(state, found_file("d", text="x"), heads=[(1, 1)])
        self.assertEqual(state.placed[0].ids, ((1, 1), (6, 0)))
        self.assertEqual(state.placed[0].content, mark("x"))


if __name__ == "__main__":
    unittest.main()
