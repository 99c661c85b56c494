import unittest

from foldkeep.lines import (
    find_head, find_line, fold_lines, lines_after, lines_of, move_line, settle, stands,
)
from foldkeep.marks import mark_of

ONE = mark_of("one", False)
TWO = mark_of("two", False)
THREE = mark_of("three", True)

# A folder d with a folder e and files in both, a folder f beside it, and a file in the root.
D = ((1, 0), (1, 0), None, ("d",), None)
E = ((2, 0), (2, 0), (1, 0), ("e",), None)
F = ((3, 0), (3, 0), None, ("f",), None)
IN_D = ((4, 0), (4, 0), (1, 0), ("x",), ONE)
IN_E = ((5, 0), (8, 0), (2, 0), ("deep", "y"), TWO)
ROOT = ((6, 0), (7, 0), None, ("z",), THREE)
LINES = [D, E, F, IN_D, IN_E, ROOT]


def root(*names):
    """A place in the root."""
    return (None, names, names)


def write(edit_id, place, content, line=None, replaces=()):
    return ("write", edit_id, place, content, line, replaces)


def paths(lines):
    """The path of each line, by line id."""
    return {line[0]: stands(lines, line) for line in lines}


class Lists(unittest.TestCase):
    """Each test checks afterwards that the list that was passed in is as it was."""

    def after(self, lines, edit):
        before = list(lines)
        made = lines_after(lines, edit)
        self.assertEqual(lines, before)
        self.assertIsNot(made, lines)
        self.assertIsInstance(made, list)
        return made


class Finding(unittest.TestCase):
    def test_find_line(self):
        self.assertEqual(find_line(LINES, (5, 0)), IN_E)
        self.assertIsNone(find_line(LINES, (8, 0)))
        self.assertIsNone(find_line(LINES, (5, 1)))
        self.assertIsNone(find_line([], (5, 0)))

    def test_find_head(self):
        self.assertEqual(find_head(LINES, (8, 0)), IN_E)
        self.assertEqual(find_head(LINES, (1, 0)), D)
        self.assertIsNone(find_head(LINES, (5, 0)))
        self.assertIsNone(find_head([], (5, 0)))

    def test_stands(self):
        self.assertEqual(stands(LINES, D), ("d",))
        self.assertEqual(stands(LINES, E), ("d", "e"))
        self.assertEqual(stands(LINES, IN_D), ("d", "x"))
        self.assertEqual(stands(LINES, IN_E), ("d", "e", "deep", "y"))
        self.assertEqual(stands(LINES, ROOT), ("z",))
        self.assertEqual(stands([ROOT[:3] + (("p", "q"), ONE)], ROOT[:3] + (("p", "q"), ONE)), ("p", "q"))


class Settling(unittest.TestCase):
    def test_inside_a_folder(self):
        self.assertEqual(settle(LINES, ((2, 0), ("a",), ("was", "a"))), ((2, 0), ("a",)))
        self.assertEqual(settle(LINES, ((2, 0), ("a", "b"), ("a", "b"))), ((2, 0), ("a", "b")))

    def test_in_the_root(self):
        self.assertEqual(settle(LINES, (None, ("a",), ("was", "a"))), (None, ("was", "a")))

    def test_inside_what_is_no_folder(self):
        self.assertEqual(settle(LINES, ((4, 0), ("a",), ("was", "a"))), (None, ("was", "a")))

    def test_inside_what_is_not_there(self):
        for inside in [(9, 0), (1, 1), (8, 0), (7, 0)]:
            self.assertEqual(settle(LINES, (inside, ("a",), ("was", "a"))), (None, ("was", "a")))
        self.assertEqual(settle([], ((1, 0), ("a",), ("was", "a"))), (None, ("was", "a")))


class WritesOfTexts(Lists):
    def test_a_new_line_in_the_root(self):
        made = self.after(LINES, write((9, 1), root("n"), TWO))
        self.assertEqual(made, LINES + [((9, 1), (9, 1), None, ("n",), TWO)])
        self.assertEqual(self.after([], write((1, 1), root("n"), TWO)), [((1, 1), (1, 1), None, ("n",), TWO)])

    def test_a_new_line_inside_a_folder(self):
        made = self.after(LINES, write((9, 1), ((2, 0), ("n",), ("old", "n")), TWO))
        self.assertEqual(made, LINES + [((9, 1), (9, 1), (2, 0), ("n",), TWO)])

    def test_a_new_line_inside_what_is_no_folder_or_not_there(self):
        for inside in [(4, 0), (8, 0), (77, 0)]:
            made = self.after(LINES, write((9, 1), (inside, ("n",), ("old", "n")), TWO))
            self.assertEqual(made, LINES + [((9, 1), (9, 1), None, ("old", "n"), TWO)])

    def test_a_new_line_where_the_line_that_is_meant_stands(self):
        for meant in LINES:
            made = self.after(LINES, write((9, 1), root("elsewhere"), TWO, meant[0]))
            self.assertEqual(made, LINES + [((9, 1), (9, 1), meant[2], meant[3], TWO)])

    def test_a_line_that_is_meant_and_not_there(self):
        for line_id in [(77, 0), (8, 0)]:
            made = self.after(LINES, write((9, 1), ((1, 0), ("n",), ("d", "n")), TWO, line_id))
            self.assertEqual(made, LINES + [((9, 1), (9, 1), (1, 0), ("n",), TWO)])

    def test_one_head_that_is_replaced(self):
        made = self.after(LINES, write((9, 1), root("elsewhere"), THREE, (6, 0), ((8, 0),)))
        self.assertEqual(made, [D, E, F, IN_D, ((5, 0), (9, 1), (2, 0), ("deep", "y"), THREE), ROOT])

    def test_a_head_that_is_not_there(self):
        for head in [(5, 0), (6, 0), (8, 1), (77, 0)]:
            made = self.after(LINES, write((9, 1), root("n"), TWO, None, (head,)))
            self.assertEqual(made, LINES + [((9, 1), (9, 1), None, ("n",), TWO)])

    def test_several_heads_the_first_in_the_list_continues(self):
        for replaces in [((7, 0), (8, 0), (4, 0)), ((4, 0), (7, 0), (8, 0)), ((8, 0), (77, 0), (4, 0), (7, 0))]:
            made = self.after(LINES, write((9, 1), root("n"), TWO, None, replaces))
            self.assertEqual(made, [D, E, F, ((4, 0), (9, 1), (1, 0), ("x",), TWO)])

    def test_a_folder_does_not_continue(self):
        made = self.after(LINES, write((9, 1), root("n"), TWO, None, ((3, 0),)))
        self.assertEqual(made, [D, E, IN_D, IN_E, ROOT, ((9, 1), (9, 1), None, ("n",), TWO)])

    def test_a_folder_and_a_file_that_are_replaced(self):
        made = self.after(LINES, write((9, 1), root("n"), TWO, None, ((1, 0), (8, 0))))
        self.assertEqual(made, [
            ((2, 0), (2, 0), None, ("d", "e"), None), F, ((4, 0), (4, 0), None, ("d", "x"), ONE),
            ((5, 0), (9, 1), (2, 0), ("deep", "y"), TWO), ROOT])

    def test_a_new_line_inside_a_folder_that_ends(self):
        made = self.after([D], write((9, 1), ((1, 0), ("n",), ("d", "n")), TWO, None, ((1, 0),)))
        self.assertEqual(made, [((9, 1), (9, 1), None, ("d", "n"), TWO)])

    def test_a_head_that_is_replaced_twice(self):
        made = self.after(LINES, write((9, 1), root("n"), TWO, None, ((8, 0), (8, 0), (7, 0), (7, 0))))
        self.assertEqual(made, [D, E, F, IN_D, ((5, 0), (9, 1), (2, 0), ("deep", "y"), TWO)])


class WritesOfFolders(Lists):
    def test_a_new_line(self):
        made = self.after(LINES, write((9, 1), root("n"), None))
        self.assertEqual(made, LINES + [((9, 1), (9, 1), None, ("n",), None)])
        made = self.after(LINES, write((9, 1), ((2, 0), ("n",), ("d", "e", "n")), None))
        self.assertEqual(made, LINES + [((9, 1), (9, 1), (2, 0), ("n",), None)])

    def test_the_line_that_is_meant(self):
        made = self.after(LINES, write((9, 1), root("n"), None, (2, 0)))
        self.assertEqual(made, LINES + [((9, 1), (9, 1), (1, 0), ("e",), None)])
        made = self.after(LINES, write((9, 1), root("n"), None, (77, 0)))
        self.assertEqual(made, LINES + [((9, 1), (9, 1), None, ("n",), None)])

    def test_no_line_continues(self):
        made = self.after(LINES, write((9, 1), root("n"), None, None, ((7, 0), (3, 0))))
        self.assertEqual(made, [D, E, IN_D, IN_E, ((9, 1), (9, 1), None, ("n",), None)])

    def test_what_stood_in_a_folder_that_is_replaced_stays_at_its_path(self):
        made = self.after(LINES, write((9, 1), root("n"), None, None, ((1, 0), (2, 0))))
        self.assertEqual(paths(made), {
            (3, 0): ("f",), (4, 0): ("d", "x"), (5, 0): ("d", "e", "deep", "y"), (6, 0): ("z",), (9, 1): ("n",)})

    def test_a_new_folder_inside_one_that_ends(self):
        made = self.after([D], write((9, 1), ((1, 0), ("n",), ("d", "n")), None, None, ((1, 0),)))
        self.assertEqual(made, [((9, 1), (9, 1), None, ("d", "n"), None)])


class Drops(Lists):
    def test_files(self):
        self.assertEqual(self.after(LINES, ("drop", (9, 1), ((8, 0), (4, 0)))), [D, E, F, ROOT])

    def test_what_is_not_there(self):
        self.assertEqual(self.after(LINES, ("drop", (9, 1), ())), LINES)
        self.assertEqual(self.after(LINES, ("drop", (9, 1), ((5, 0), (77, 0), (8, 1)))), LINES)

    def test_a_head_that_is_named_twice(self):
        self.assertEqual(self.after(LINES, ("drop", (9, 1), ((7, 0), (7, 0)))), [D, E, F, IN_D, IN_E])

    def test_a_folder_with_lines_inside(self):
        made = self.after(LINES, ("drop", (9, 1), ((1, 0),)))
        self.assertEqual(made, [
            ((2, 0), (2, 0), None, ("d", "e"), None), F, ((4, 0), (4, 0), None, ("d", "x"), ONE), IN_E, ROOT])

    def test_a_folder_in_a_folder(self):
        made = self.after(LINES, ("drop", (9, 1), ((2, 0),)))
        self.assertEqual(made, [D, F, IN_D, ((5, 0), (8, 0), (1, 0), ("e", "deep", "y"), TWO), ROOT])

    def test_one_inside_the_other_in_both_orders(self):
        expected = [
            F, ((4, 0), (4, 0), None, ("d", "x"), ONE), ((5, 0), (8, 0), None, ("d", "e", "deep", "y"), TWO), ROOT]
        self.assertEqual(self.after(LINES, ("drop", (9, 1), ((1, 0), (2, 0)))), expected)
        self.assertEqual(self.after(LINES, ("drop", (9, 1), ((2, 0), (1, 0)))), expected)

    def test_everything(self):
        self.assertEqual(self.after(LINES, ("drop", (9, 1), tuple(line[1] for line in LINES))), [])


class Moves(Lists):
    def moved(self, lines, *entries):
        return self.after(lines, ("move", (9, 1), entries))

    def entry(self, head, line, place):
        """What one entry makes; by `move_line`, and by a move with this entry."""
        before = list(LINES)
        made = move_line(LINES, head, line, place)
        self.assertEqual(LINES, before)
        self.assertIsNot(made, LINES)
        self.assertEqual(self.moved(LINES, (head, line, place)), made)
        return made

    def test_by_head(self):
        made = self.entry((8, 0), (77, 0), ((3, 0), ("n",), ("f", "n")))
        self.assertEqual(made, [D, E, F, IN_D, ((5, 0), (8, 0), (3, 0), ("n",), TWO), ROOT])

    def test_by_head_before_line(self):
        made = self.entry((8, 0), (6, 0), root("n"))
        self.assertEqual(made, [D, E, F, IN_D, ((5, 0), (8, 0), None, ("n",), TWO), ROOT])

    def test_by_line(self):
        made = self.entry((77, 0), (5, 0), root("n"))
        self.assertEqual(made, [D, E, F, IN_D, ((5, 0), (8, 0), None, ("n",), TWO), ROOT])

    def test_what_is_not_there(self):
        self.assertEqual(self.entry((77, 0), (77, 0), root("n")), LINES)
        self.assertEqual(self.entry((5, 0), (8, 0), root("n")), LINES)
        self.assertEqual(move_line([], (1, 0), (1, 0), root("n")), [])

    def test_a_place_that_settles_in_the_root(self):
        for inside in [None, (77, 0), (4, 0)]:
            made = self.entry((4, 0), (4, 0), (inside, ("n",), ("seen", "n")))
            self.assertEqual(made, [D, E, F, ((4, 0), (4, 0), None, ("seen", "n"), ONE), IN_E, ROOT])

    def test_what_stands_inside_moves_along(self):
        made = self.entry((1, 0), (1, 0), ((3, 0), ("g",), ("f", "g")))
        self.assertEqual(made, [((1, 0), (1, 0), (3, 0), ("g",), None), E, F, IN_D, IN_E, ROOT])
        self.assertEqual(paths(made)[(5, 0)], ("f", "g", "e", "deep", "y"))

    def test_into_itself(self):
        self.assertEqual(self.entry((1, 0), (1, 0), ((1, 0), ("n",), ("n",))), LINES)

    def test_into_what_stands_in_it(self):
        self.assertEqual(self.entry((1, 0), (1, 0), ((2, 0), ("n",), ("n",))), LINES)
        deep = LINES + [((9, 0), (9, 0), (2, 0), ("g",), None)]
        self.assertEqual(self.moved(deep, ((1, 0), (1, 0), ((9, 0), ("n",), ("n",)))), deep)
        self.assertEqual(self.moved(deep, ((77, 0), (1, 0), ((9, 0), ("n",), ("n",)))), deep)
        self.assertEqual(self.moved(deep, ((2, 0), (2, 0), ((9, 0), ("n",), ("n",)))), deep)

    def test_out_of_and_within_a_folder(self):
        made = self.entry((2, 0), (2, 0), ((1, 0), ("n",), ("d", "n")))
        self.assertEqual(made[1], ((2, 0), (2, 0), (1, 0), ("n",), None))
        made = self.entry((2, 0), (2, 0), ((3, 0), ("n",), ("f", "n")))
        self.assertEqual(paths(made)[(5, 0)], ("f", "n", "deep", "y"))

    def test_several_entries_one_after_another(self):
        made = self.moved(
            LINES, ((2, 0), (2, 0), root("e")), ((1, 0), (1, 0), ((2, 0), ("d",), ("e", "d"))),
            ((3, 0), (3, 0), ((1, 0), ("f",), ("d", "f"))))
        self.assertEqual(paths(made), {
            (1, 0): ("e", "d"), (2, 0): ("e",), (3, 0): ("e", "d", "f"), (4, 0): ("e", "d", "x"),
            (5, 0): ("e", "deep", "y"), (6, 0): ("z",)})
        self.assertEqual([line[0] for line in made], [line[0] for line in LINES])

    def test_an_entry_that_does_nothing_stops_no_other(self):
        made = self.moved(
            LINES, ((77, 0), (77, 0), root("n")), ((1, 0), (1, 0), ((2, 0), ("n",), ("n",))),
            ((7, 0), (6, 0), root("last")))
        self.assertEqual(made, [D, E, F, IN_D, IN_E, ((6, 0), (7, 0), None, ("last",), THREE)])

    def test_no_entries(self):
        self.assertEqual(self.moved(LINES), LINES)

    def test_the_same_line_twice(self):
        made = self.moved(LINES, ((7, 0), (6, 0), root("a")), ((7, 0), (6, 0), root("b")))
        self.assertEqual(paths(made)[(6, 0)], ("b",))


class Folding(unittest.TestCase):
    EDITS = [
        write((1, 0), root("d"), None),
        write((2, 0), ((1, 0), ("x",), ("d", "x")), ONE),
        write((2, 1), root("y"), TWO),
        ("move", (3, 0), (((2, 1), (2, 1), ((1, 0), ("y",), ("d", "y"))),)),
        write((4, 0), root("y"), THREE, (2, 1), ((2, 1),)),
        ("drop", (5, 1), ((1, 0), (2, 0))),
    ]

    def test_in_order(self):
        self.assertEqual(lines_of(self.EDITS), [((2, 1), (4, 0), None, ("d", "y"), THREE)])
        self.assertEqual(lines_of(self.EDITS[:4]), [
            ((1, 0), (1, 0), None, ("d",), None), ((2, 0), (2, 0), (1, 0), ("x",), ONE),
            ((2, 1), (2, 1), (1, 0), ("y",), TWO)])
        self.assertEqual(lines_of([]), [])

    def test_step_by_step(self):
        lines = []
        for at, edit in enumerate(self.EDITS):
            lines = lines_after(lines, edit)
            self.assertEqual(lines, lines_of(self.EDITS[:at + 1]))
            self.assertEqual(fold_lines(lines, self.EDITS[at + 1:]), lines_of(self.EDITS))

    def test_new_lists(self):
        lines = list(LINES)
        edits = list(self.EDITS)
        made = fold_lines(lines, [])
        self.assertEqual(made, lines)
        self.assertIsNot(made, lines)
        fold_lines(lines, tuple(edits))
        lines_of(edits)
        self.assertEqual((lines, edits), (LINES, self.EDITS))


if __name__ == "__main__":
    unittest.main()
