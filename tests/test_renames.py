import unittest

from foldkeep.hosts import Host
from foldkeep.names import Rule
from looks import beyond, inside, make, make_folder, number_at, opened_folder, paths, refuses_deed, row_of


class Renames(unittest.TestCase):
    def renames(self, host, spot, goal, turned):
        before = host.turned
        host.program(("rename", spot, goal))
        self.assertEqual(host.turned - before, turned)


class ToAFreePath(Renames):
    def test_a_file(self):
        host = Host(Rule())
        make(host, "a", text="abc", runs=True)
        host.program(("write", inside("a"), 0, "X"))
        self.renames(host, inside("a"), inside("b"), 1)
        self.assertEqual(host.tree(), [(("b",), "file", 1, 1, 0, "Xbc", True)])

    def test_a_folder_with_everything_in_it(self):
        host = Host(Rule())
        make_folder(host, "d")
        make_folder(host, "d", "e")
        make(host, "d", "e", "x", text="abc")
        make_folder(host, "f")
        self.renames(host, inside("d"), inside("f", "g"), 1)
        self.assertEqual(paths(host.tree()), [("f",), ("f", "g"), ("f", "g", "e"), ("f", "g", "e", "x")])
        self.assertEqual(number_at(host, "f", "g", "e", "x"), 3)

    def test_something_other(self):
        host = Host(Rule())
        host.program(("make_other", inside("o")))
        self.renames(host, inside("o"), inside("p"), 1)
        self.assertEqual(host.tree(), [(("p",), "other", 1, 0, 0, "", False)])

    def test_from_the_folder_to_outside_and_back(self):
        host = Host(Rule())
        make_folder(host, "d")
        make(host, "d", "x")
        self.renames(host, inside("d"), beyond("d"), 1)
        self.assertEqual(host.tree(), [])
        self.assertEqual(paths(host.outside()), [("d",), ("d", "x")])
        self.renames(host, beyond("d", "x"), inside("x"), 1)
        self.renames(host, beyond("d"), inside("e"), 1)
        self.assertEqual(host.outside(), [])
        self.assertEqual(paths(host.tree()), [("e",), ("x",)])

    def test_through_an_open_folder(self):
        host = Host(Rule())
        folder = opened_folder(host, "d")
        make(host, "a")
        self.renames(host, inside("a"), (folder, ("b",)), 1)
        self.renames(host, (folder, ("b",)), (folder, ("c",)), 1)
        self.assertEqual(paths(host.tree()), [("d",), ("d", "c")])
        self.renames(host, (folder, ("c",)), beyond("c"), 1)
        self.assertEqual(paths(host.outside()), [("c",)])

    def test_a_thing_in_a_folder_that_lies_on_the_shelf(self):
        host = Host(Rule())
        folder = opened_folder(host, "d")
        make(host, "d", "x")
        make_folder(host, "d", "e")
        host.ask(("take", ("d",), 5))
        self.renames(host, (folder, ("x",)), (folder, ("e", "y")), 1)
        self.assertEqual(paths(host.shelf()[0][1]), [(), ("e",), ("e", "y")])
        self.renames(host, (folder, ("e", "y")), inside("z"), 1)
        self.assertEqual(paths(host.tree()), [("z",)])
        self.renames(host, inside("z"), (folder, ("back",)), 1)
        self.assertEqual(paths(host.shelf()[0][1]), [(), ("back",), ("e",)])

    def test_names_above_are_spelled_as_they_are(self):
        host = Host(Rule(alike=("Dd",)))
        make_folder(host, "d")
        make(host, "a")
        self.renames(host, inside("a"), inside("D", "Dd"), 1)
        self.assertEqual(paths(host.tree()), [("d",), ("d", "Dd")])

    def test_goals_that_are_not_free(self):
        host = Host(Rule(unfit=("con",), longest=48))
        make(host, "a")
        make(host, "b")
        for path in [(), ("con",), ("x" * 49,), ("none", "x"), ("b", "x"), ("a", "x"), ("",), (".",)]:
            refuses_deed(self, host, ("rename", inside("a"), ("folder", path)))
            refuses_deed(self, host, ("rename", inside("a"), ("outside", path)))

    def test_nothing_at_the_spot(self):
        host = Host(Rule())
        make(host, "a")
        refuses_deed(self, host, ("rename", inside("x"), inside("y")))
        refuses_deed(self, host, ("rename", inside("x"), inside("a")))
        refuses_deed(self, host, ("rename", inside("x"), inside("x")))
        refuses_deed(self, host, ("rename", ("folder", ()), inside("y")))

    def test_into_itself(self):
        host = Host(Rule(alike=("Dd",)))
        folder = opened_folder(host, "d")
        deep = make_folder(host, "d", "e")
        host.program(("open", inside("d", "e")))
        for goal in [inside("d", "x"), inside("D", "x"), inside("d", "e", "x"), (folder, ("x",)), (folder, ("e", "x")),
                     (deep, ("x",))]:
            refuses_deed(self, host, ("rename", inside("d"), goal))
        self.renames(host, inside("d", "e"), (folder, ("f",)), 1)
        refuses_deed(self, host, ("rename", (folder, ("f",)), (deep, ("x",))))

    def test_into_itself_outside_and_on_the_shelf(self):
        host = Host(Rule())
        folder = opened_folder(host, "d")
        make_folder(host, "d", "e")
        host.program(("rename", inside("d"), beyond("d")))
        refuses_deed(self, host, ("rename", beyond("d"), (folder, ("x",))))
        host.program(("rename", beyond("d"), inside("d")))
        host.ask(("take", ("d",), 0))
        refuses_deed(self, host, ("rename", (folder, ("e",)), (folder, ("e", "x"))))

    def test_what_was_taken_out_of_it_is_not_in_it(self):
        host = Host(Rule())
        make_folder(host, "d")
        folder = opened_folder(host, "d", "e")
        host.ask(("take", ("d", "e"), 0))
        self.renames(host, inside("d"), (folder, ("x",)), 1)
        self.assertEqual(paths(host.shelf()[0][1]), [(), ("x",)])

    def test_what_was_exchanged_out_of_it_is_not_in_it(self):
        host = Host(Rule())
        make_folder(host, "d")
        folder = opened_folder(host, "d", "e")
        host.ask(("stage", 0, "", False))
        host.ask(("swap", 0, ("d", "e")))
        self.renames(host, inside("d"), (folder, ("x",)), 1)
        self.assertEqual(paths(host.shelf()[0][1]), [(), ("x",), ("x", "e")])
        refuses_deed(self, host, ("rename", (folder, ("x",)), (folder, ("x", "y"))))

    def test_a_folder_beside_it_is_no_goal_in_itself(self):
        host = Host(Rule())
        make_folder(host, "d")
        make_folder(host, "dd")
        self.renames(host, inside("d"), inside("dd", "d"), 1)
        self.renames(host, inside("dd", "d"), inside("d"), 1)
        self.assertEqual(paths(host.tree()), [("d",), ("dd",)])


class OntoItself(Renames):
    def test_the_same_spelling(self):
        host = Host(Rule())
        make(host, "a", text="abc")
        before = host.tree()
        self.renames(host, inside("a"), inside("a"), 1)
        self.assertEqual(host.tree(), before)

    def test_another_spelling(self):
        host = Host(Rule(alike=("Aa", "Dd")))
        make_folder(host, "d")
        make(host, "d", "a")
        self.renames(host, inside("D", "a"), inside("D", "A"), 1)
        self.assertEqual(paths(host.tree()), [("d",), ("d", "A")])
        self.renames(host, inside("d"), inside("D"), 1)
        self.assertEqual(paths(host.tree()), [("D",), ("D", "A")])

    def test_through_an_open_folder(self):
        host = Host(Rule(alike=("Aa",)))
        folder = opened_folder(host, "d")
        make(host, "d", "a")
        self.renames(host, inside("d", "a"), (folder, ("A",)), 1)
        self.assertEqual(paths(host.tree()), [("d",), ("d", "A")])
        host.ask(("take", ("d",), 0))
        self.renames(host, (folder, ("A",)), (folder, ("a",)), 1)
        self.assertEqual(paths(host.shelf()[0][1]), [(), ("a",)])

    def test_a_spelling_that_does_not_fit(self):
        # A slash counts as an a here, so that a name that is none leads to the thing all the same.
        host = Host(Rule(alike=("/a",)))
        make(host, "a")
        refuses_deed(self, host, ("rename", inside("a"), inside("/")))


class OverAnother(Renames):
    def test_a_file_over_a_file(self):
        host = Host(Rule())
        make(host, "a", text="one")
        make(host, "b", text="two")
        self.renames(host, inside("a"), inside("b"), 2)
        self.assertEqual(host.tree(), [(("b",), "file", 1, 0, 0, "one", False)])

    def test_the_name_stays_as_that_was_spelled(self):
        host = Host(Rule(alike=("Bb", "Dd")))
        make_folder(host, "d")
        make(host, "a")
        make(host, "d", "b")
        self.renames(host, inside("a"), inside("D", "B"), 2)
        self.assertEqual(paths(host.tree()), [("d",), ("d", "b")])
        self.assertEqual(number_at(host, "d", "b"), 2)

    def test_files_and_others(self):
        host = Host(Rule())
        make(host, "a")
        host.program(("make_other", inside("o")))
        self.renames(host, inside("a"), inside("o"), 2)
        self.assertEqual(host.tree(), [(("o",), "file", 1, 0, 0, "", False)])
        host.program(("make_other", beyond("p")))
        self.renames(host, beyond("p"), inside("o"), 2)
        self.assertEqual(host.tree(), [(("o",), "other", 3, 0, 0, "", False)])
        self.assertEqual(host.outside(), [])

    def test_no_folder_over_anything_and_nothing_over_a_folder(self):
        host = Host(Rule())
        make(host, "a")
        host.program(("make_other", inside("o")))
        make_folder(host, "d")
        make_folder(host, "e")
        make(host, "e", "x")
        for first, second in [("a", "d"), ("d", "a"), ("o", "d"), ("d", "o"), ("d", "e"), ("e", "d")]:
            refuses_deed(self, host, ("rename", inside(first), inside(second)))
        refuses_deed(self, host, ("rename", inside("e"), inside("e", "x")))
        refuses_deed(self, host, ("rename", inside("e", "x"), inside("e")))

    def test_what_is_renamed_over_while_it_is_open(self):
        host = Host(Rule())
        make(host, "a", text="one")
        over = make(host, "b", text="two")
        host.program(("open", inside("b")))
        host.program(("rename", inside("a"), inside("b")))
        refuses_deed(self, host, ("write", over, 0, "x"))
        self.assertIsNone(row_of(host, over))
        self.assertEqual(host.opened, [over])
        host.program(("close", over))

    def test_in_a_folder_on_the_shelf(self):
        host = Host(Rule())
        folder = opened_folder(host, "d")
        make(host, "d", "x", text="one")
        make(host, "a", text="two")
        host.ask(("take", ("d",), 0))
        self.renames(host, inside("a"), (folder, ("x",)), 2)
        self.assertEqual(host.shelf(), [
            (0, [((), "folder", 1, 0, 0, "", False), (("x",), "file", 3, 0, 0, "two", False)])])
        self.assertEqual(host.tree(), [])


if __name__ == "__main__":
    unittest.main()
