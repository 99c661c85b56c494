"""Points 47 to 54: what is shown of lines."""

import unittest

from foldkeep.lines import lines_of
from foldkeep.marks import mark_of
from foldkeep.names import Rule
from foldkeep.shown import shown_at, shown_tree
from keeps import a_line, mark


def shown(lines, taken=(), **rule):
    return shown_tree(Rule(**rule), list(taken), list(lines))


def paths(tree):
    return [entry[0] for entry in tree]


class Files(unittest.TestCase):
    def test_the_example_of_the_interface(self):
        place = (None, ("a.txt",), ("a.txt",))
        first = ("write", (1, 0), place, mark_of("one", False), None, ())
        second = ("write", (1, 1), place, mark_of("two", False), None, ())
        tree = shown_tree(Rule(), [], lines_of([first, second]))
        self.assertEqual([entry[0] for entry in tree], [("a.txt",), ("a (1-1).txt",)])

    def test_no_lines(self):
        self.assertEqual(shown([]), [])
        self.assertEqual(shown([], [("a",), ("b", "c")]), [])

    def test_one_file(self):
        lines = [a_line((2, 1), "a.txt", text="one", head=(5, 0))]
        self.assertEqual(shown(lines), [(("a.txt",), ("a.txt",), mark("one"), ((5, 0),), (2, 1))])

    def test_equal_contents_at_one_path_are_one_file(self):
        lines = [a_line((1, 0), "a", text="x", head=(7, 0)), a_line((2, 0), "a", text="x", head=(3, 1)),
                 a_line((4, 0), "a", text="x", head=(5, 2))]
        self.assertEqual(shown(lines), [(("a",), ("a",), mark("x"), ((3, 1), (5, 2), (7, 0)), (1, 0))])

    def test_the_least_line_is_found_wherever_it_stands_in_the_list(self):
        lines = [a_line((4, 0), "a", text="x"), a_line((1, 1), "a", text="x"), a_line((1, 0), "a", text="y", head=(9, 0))]
        self.assertEqual(shown(lines), [
            (("a",), ("a",), mark("y"), ((9, 0),), (1, 0)),
            (("a (1-1)",), ("a",), mark("x"), ((1, 1), (4, 0)), (1, 1)),
        ])

    def test_other_contents_are_copies_in_the_order_of_their_lines(self):
        lines = [a_line((3, 0), "n.txt", text="c"), a_line((2, 0), "n.txt", text="b", head=(9, 1)),
                 a_line((2, 1), "n.txt", text="a")]
        self.assertEqual(shown(lines), [
            (("n.txt",), ("n.txt",), mark("b"), ((9, 1),), (2, 0)),
            (("n (2-1).txt",), ("n.txt",), mark("a"), ((2, 1),), (2, 1)),
            (("n (3-0).txt",), ("n.txt",), mark("c"), ((3, 0),), (3, 0)),
        ])

    def test_the_same_text_that_runs_is_another_content(self):
        lines = [a_line((1, 0), "a", text="x"), ((2, 0), (2, 0), None, ("a",), mark("x", True))]
        self.assertEqual(paths(shown(lines)), [("a",), ("a (2-0)",)])

    def test_equal_contents_at_different_paths_are_two_files(self):
        lines = [a_line((1, 0), "a", text="x"), a_line((2, 0), "b", text="x")]
        self.assertEqual(paths(shown(lines)), [("a",), ("b",)])


class Folders(unittest.TestCase):
    def test_one_folder_line(self):
        self.assertEqual(shown([a_line((3, 1), "d")]), [(("d",), ("d",), None, ((3, 1),), (3, 1))])

    def test_several_folder_lines_at_one_path_are_one_folder(self):
        lines = [a_line((4, 0), "d"), a_line((1, 2), "d"), a_line((4, 1), "d")]
        self.assertEqual(shown(lines), [(("d",), ("d",), None, ((1, 2), (4, 0), (4, 1)), (1, 2))])

    def test_a_folder_above_a_line_stands_for_nothing(self):
        self.assertEqual(shown([a_line((2, 0), "d", "e", "a", text="x")]), [
            (("d",), ("d",), None, (), None),
            (("d", "e"), ("d", "e"), None, (), None),
            (("d", "e", "a"), ("d", "e", "a"), mark("x"), ((2, 0),), (2, 0)),
        ])

    def test_a_line_below_a_folder_line_adds_no_head_to_it(self):
        lines = [a_line((1, 0), "d", "a", text="x"), a_line((3, 0), "d")]
        self.assertEqual(shown(lines), [
            (("d",), ("d",), None, ((3, 0),), (3, 0)),
            (("d", "a"), ("d", "a"), mark("x"), ((1, 0),), (1, 0)),
        ])

    def test_a_line_stands_inside_folder_lines_at_several_depths(self):
        lines = [
            a_line((1, 0), "d", "e"), a_line((2, 0), "f", inside=(1, 0)), a_line((3, 0), "g", "h", inside=(2, 0)),
            a_line((4, 0), "a", text="x", inside=(3, 0)), a_line((5, 0), "b", text="y", inside=(1, 0)),
        ]
        self.assertEqual([(entry[0], entry[3]) for entry in shown(lines)], [
            (("d",), ()),
            (("d", "e"), ((1, 0),)),
            (("d", "e", "f"), ((2, 0),)),
            (("d", "e", "f", "g"), ()),
            (("d", "e", "f", "g", "h"), ((3, 0),)),
            (("d", "e", "f", "g", "h", "a"), ((4, 0),)),
            (("d", "e", "b"), ((5, 0),)),
        ])

    def test_a_line_may_stand_inside_a_folder_line_that_is_newer(self):
        lines = [a_line((1, 0), "a", text="x", inside=(6, 0)), a_line((6, 0), "d")]
        self.assertEqual(paths(shown(lines)), [("d",), ("d", "a")])

    def test_a_very_deep_path(self):
        names = tuple(["d"] * 1500)
        tree = shown([a_line((1, 0), *names, text="x")])
        self.assertEqual(len(tree), 1500)
        self.assertEqual(tree[-1][0], names)


class FoldersAndFiles(unittest.TestCase):
    def test_a_folder_has_the_own_name_and_all_files_are_copies(self):
        lines = [a_line((1, 0), "d.x", text="a"), a_line((2, 0), "d.x", text="b"), a_line((3, 0), "d.x")]
        self.assertEqual(shown(lines), [
            (("d.x",), ("d.x",), None, ((3, 0),), (3, 0)),
            (("d (1-0).x",), ("d.x",), mark("a"), ((1, 0),), (1, 0)),
            (("d (2-0).x",), ("d.x",), mark("b"), ((2, 0),), (2, 0)),
        ])

    def test_a_folder_without_a_line_of_its_own_has_the_own_name_too(self):
        lines = [a_line((1, 0), "d", text="a"), a_line((2, 0), "d", "e", text="b")]
        self.assertEqual(paths(shown(lines)), [("d",), ("d", "e"), ("d (1-0)",)])


class Names(unittest.TestCase):
    def check(self, lines, expected, taken=(), **rule):
        self.assertEqual(paths(shown(lines, taken, **rule)), [tuple(path) for path in expected])

    def test_a_name_that_does_not_fit(self):
        lines = [a_line((1, 0), "con", text="x"), a_line((2, 0), "nul.txt", text="y"), a_line((3, 0), "ok", text="z")]
        self.check(lines, [["ok"], ["con (1-0)"], ["nul (2-0).txt"]], unfit=("con", "nul.txt"))

    def test_a_name_alike_to_an_unfit_one(self):
        self.check([a_line((1, 0), "CoN", text="x")], [["CoN (1-0)"]], unfit=("con",), alike=("Cc", "Nn"))
        self.check([a_line((1, 0), "CoN", text="x")], [["CoN"]], unfit=("con",))

    def test_a_name_that_is_too_long_is_cut(self):
        for length, expected in [(48, "x" * 44 + ".txt"), (49, "x" * 38 + " (1-0).txt")]:
            with self.subTest(length=length):
                self.check([a_line((1, 0), "x" * (length - 4) + ".txt", text="x")], [[expected]], longest=48)

    def test_an_empty_name_gets_the_name_of_a_copy(self):
        lines = [a_line((1, 0), "", text="x"), a_line((2, 0), "d", "", text="y")]
        self.check(lines, [["d"], ["d", " (2-0)"], [" (1-0)"]])

    def test_a_name_that_is_taken(self):
        lines = [a_line((1, 0), "a.txt", text="x"), a_line((2, 0), "b", text="y")]
        self.check(lines, [["b"], ["a (1-0).txt"]], [("a.txt",)])
        self.check(lines, [["b"], ["a (1-0).txt"]], [("A.txt",)], alike=("Aa",))
        self.check(lines, [["a.txt"], ["b"]], [("A.txt",)])

    def test_a_name_that_is_taken_elsewhere_or_is_no_name_takes_nothing(self):
        lines = [a_line((1, 0), "a", text="x")]
        self.check(lines, [["a"]], [("d", "a"), ("a", "b"), ()])

    def test_a_name_alike_to_one_that_was_given(self):
        lines = [a_line((2, 0), "README", text="x"), a_line((1, 0), "reaDme", text="y"), a_line((3, 0), "readme", text="z")]
        alike = ("Rr", "Ee", "Aa", "Dd", "Mm")
        self.check(lines, [["reaDme"], ["README (2-0)"], ["readme (3-0)"]], alike=alike)
        self.check(lines, [["reaDme"], ["README"], ["readme"]])

    def test_k_is_counted_up_while_the_name_of_the_copy_is_taken(self):
        lines = [a_line((1, 0), "a.x", text="x"), a_line((2, 0), "a.x", text="y")]
        taken = [("a (2-0).x",), ("a (2-0) 1.x",)]
        self.check(lines, [["a.x"], ["a (2-0) 2.x"]], taken)
        self.check(lines, [["a.x"], ["a (2-0) 1.x"]], [("A (2-0).x",)], alike=("Aa",))

    def test_k_is_counted_up_while_the_name_of_the_copy_does_not_fit(self):
        lines = [a_line((1, 0), "a", text="x"), a_line((2, 0), "a", text="y")]
        self.check(lines, [["a"], ["a (2-0) 1"]], unfit=("a (2-0)",))

    def test_k_is_counted_up_while_the_name_of_the_copy_was_given(self):
        lines = [a_line((1, 0), "a", text="x"), a_line((2, 0), "a", text="y"), a_line((3, 0), "a (2-0)", text="z")]
        self.check(lines, [["a"], ["a (2-0)"], ["a (2-0) 1"]])

    def test_names_of_copies_that_were_cut_still_differ(self):
        name = "y" * 60
        lines = [a_line((1, 0), name, text="x"), a_line((2, 0), name, text="y")]
        self.check(lines, [["y" * 42 + " (1-0)"], ["y" * 42 + " (2-0)"]], longest=48)
        self.check(lines, [["y" * 40 + " (1-0) 1"], ["y" * 42 + " (2-0)"]], [("y" * 42 + " (1-0)",)], longest=48)

    def test_k_is_counted_up_while_another_copy_has_the_name(self):
        # Both names are too long, and where they are cut, the names of their copies are the same.
        first = "s" * 60 + ".x (2-0)"
        second = "s" * 34 + " (1-0).x" + "z" * 13
        lines = [a_line((1, 0), first, text="x"), a_line((2, 0), second, text="y")]
        expected = [["s" * 34 + " (1-0).x (2-0)"], ["s" * 34 + " (1-0) (2-0) 1"]]
        self.check(lines[1:], [["s" * 34 + " (1-0).x (2-0)"]], longest=48)
        self.check(lines, expected, longest=48)

    def test_those_that_are_no_copies_get_names_of_copies_ahead_of_the_copies(self):
        lines = [a_line((1, 0), "a", text="x"), a_line((2, 0), "a", text="y"), a_line((9, 0), "con", text="z")]
        self.check(lines, [["a"], ["con (9-0)"], ["a (2-0)"]], unfit=("con",))

    def test_those_that_are_no_copies_get_names_of_copies_in_their_order(self):
        lines = [a_line((5, 0), "b", text="x"), a_line((3, 0), "c", "e", text="y"), a_line((4, 0), "a", text="z")]
        self.check(lines, [["c (3-0)"], ["c (3-0)", "e"], ["a (4-0)"], ["b (5-0)"]], unfit=("a", "b", "c"))

    def test_copies_of_different_names_come_in_the_order_of_their_lines(self):
        lines = [a_line((1, 0), "b", text="1"), a_line((5, 0), "b", text="2"), a_line((2, 0), "a", text="3"),
                 a_line((4, 0), "a", text="4"), a_line((6, 0), "a", text="5")]
        self.check(lines, [["b"], ["a"], ["a (4-0)"], ["b (5-0)"], ["a (6-0)"]])

    def test_one_name_in_two_folders_does_not_collide(self):
        lines = [a_line((1, 0), "d", "a", text="x"), a_line((2, 0), "e", "a", text="y"), a_line((3, 0), "a", text="z")]
        self.check(lines, [["d"], ["d", "a"], ["e"], ["e", "a"], ["a"]])


class FoldersWithOtherNames(unittest.TestCase):
    def test_what_stands_in_a_folder_with_the_name_of_a_copy(self):
        lines = [a_line((1, 0), "con"), a_line((2, 0), "a", text="x", inside=(1, 0)), a_line((3, 0), "d", inside=(1, 0)),
                 a_line((4, 0), "b", text="y", inside=(3, 0))]
        self.assertEqual(shown(lines, unfit=("con",)), [
            (("con (1-0)",), ("con",), None, ((1, 0),), (1, 0)),
            (("con (1-0)", "a"), ("con", "a"), mark("x"), ((2, 0),), (2, 0)),
            (("con (1-0)", "d"), ("con", "d"), None, ((3, 0),), (3, 0)),
            (("con (1-0)", "d", "b"), ("con", "d", "b"), mark("y"), ((4, 0),), (4, 0)),
        ])

    def test_the_id_in_the_name_of_a_folder_is_the_least_line_at_or_below_it(self):
        lines = [a_line((7, 1), "con"), a_line((8, 0), "con"), a_line((5, 2), "con", "a", text="x")]
        self.assertEqual(paths(shown(lines, unfit=("con",))), [("con (5-2)",), ("con (5-2)", "a")])
        lines = [a_line((7, 1), "con"), a_line((6, 0), "con"), a_line((9, 2), "con", "e", "a", text="x")]
        self.assertEqual(paths(shown(lines, unfit=("con",)))[0], ("con (6-0)",))

    def test_it_is_the_line_below_it_that_counts_and_not_its_head(self):
        lines = [a_line((5, 2), "con", "a", text="x", head=(9, 0)), a_line((6, 0), "con", "b", text="y")]
        self.assertEqual(paths(shown(lines, unfit=("con",)))[0], ("con (5-2)",))

    def test_the_order_of_a_folder_counts_what_stands_deep_in_it(self):
        lines = [a_line((4, 0), "D", text="x"), a_line((7, 1), "d"), a_line((3, 2), "d", "e", "a", text="x")]
        self.assertEqual(paths(shown(lines, alike=("Dd",))), [("d",), ("d", "e"), ("d", "e", "a"), ("D (4-0)",)])
        lines = [a_line((4, 0), "D", text="x"), a_line((7, 1), "d"), a_line((5, 2), "d", "e", "a", text="x")]
        self.assertEqual(
            paths(shown(lines, alike=("Dd",))), [("D",), ("d (5-2)",), ("d (5-2)", "e"), ("d (5-2)", "e", "a")])

    def test_files_at_the_path_do_not_count_for_the_order_of_a_folder(self):
        lines = [a_line((1, 0), "d", text="x"), a_line((2, 0), "D", text="y"), a_line((3, 0), "d")]
        self.assertEqual(paths(shown(lines, alike=("Dd",))), [("D",), ("d (3-0)",), ("d (1-0)",)])

    def test_a_taken_path_counts_by_the_path_on_the_host(self):
        lines = [a_line((1, 0), "con", "a", text="x")]
        by_host = shown(lines, [("con (1-0)", "a")], unfit=("con",))
        self.assertEqual(paths(by_host), [("con (1-0)",), ("con (1-0)", "a (1-0)")])
        by_names = shown(lines, [("con", "a")], unfit=("con",))
        self.assertEqual(paths(by_names), [("con (1-0)",), ("con (1-0)", "a")])

    def test_the_folder_of_a_taken_path_must_be_equal_not_only_alike(self):
        lines = [a_line((1, 0), "d", "a", text="x")]
        tree = shown(lines, [("D", "a")], alike=("Dd",))
        self.assertEqual(paths(tree), [("d",), ("d", "a")])

    def test_a_taken_path_above_moves_the_whole_folder(self):
        lines = [a_line((1, 0), "d"), a_line((2, 0), "a", text="x", inside=(1, 0))]
        self.assertEqual(paths(shown(lines, [("d",)])), [("d (1-0)",), ("d (1-0)", "a")])


class Order(unittest.TestCase):
    def test_what_stands_in_a_folder_follows_it_ahead_of_what_stands_beside_it(self):
        lines = [
            a_line((1, 0), "d"), a_line((2, 0), "z", text="1"), a_line((3, 0), "e", inside=(1, 0)),
            a_line((4, 0), "a", text="2", inside=(1, 0)), a_line((5, 0), "b", text="3", inside=(3, 0)),
            a_line((6, 0), "c", text="4", inside=(3, 0)), a_line((7, 0), "f"), a_line((8, 0), "y", text="5"),
            a_line((9, 0), "g", text="6", inside=(7, 0)),
        ]
        self.assertEqual(paths(shown(lines)), [
            ("d",), ("d", "e"), ("d", "e", "b"), ("d", "e", "c"), ("d", "a"), ("z",), ("f",), ("f", "g"), ("y",),
        ])

    def test_the_order_is_that_of_line_ids_and_not_of_names_or_of_the_list(self):
        lines = [a_line((3, 0), "a", text="1"), a_line((2, 5), "b", text="2"), a_line((2, 4), "c", text="3"),
                 a_line((1, 9), "d", text="4", head=(8, 8))]
        self.assertEqual(paths(shown(lines)), [("d",), ("c",), ("b",), ("a",)])

    def test_nothing_that_is_passed_in_changes(self):
        lines = [a_line((3, 0), "a", text="1"), a_line((2, 5), "a", text="2")]
        taken = [("b",)]
        shown_tree(Rule(), taken, lines)
        self.assertEqual(lines, [a_line((3, 0), "a", text="1"), a_line((2, 5), "a", text="2")])
        self.assertEqual(taken, [("b",)])


class ShownAt(unittest.TestCase):
    TREE = [
        (("a",), ("a",), mark("x"), ((1, 0),), (1, 0)),
        (("a",), ("b",), mark("y"), ((2, 0),), (2, 0)),
        (("a",), ("c",), None, ((3, 0),), (3, 0)),
        (("a",), ("d",), mark("y"), ((4, 0),), (4, 0)),
    ]

    def test_the_first_entry_with_the_path_and_the_content(self):
        self.assertEqual(shown_at(self.TREE, ("a",), mark("x")), self.TREE[0])
        self.assertEqual(shown_at(self.TREE, ("a",), mark("y")), self.TREE[1])
        self.assertEqual(shown_at(self.TREE, ("a",), None), self.TREE[2])

    def test_nothing(self):
        self.assertIsNone(shown_at(self.TREE, ("a",), mark("z")))
        self.assertIsNone(shown_at(self.TREE, ("b",), mark("x")))
        self.assertIsNone(shown_at(self.TREE, (), None))
        self.assertIsNone(shown_at([], ("a",), None))


if __name__ == "__main__":
    unittest.main()
