import unittest

from foldkeep.hosts import Host
from foldkeep.names import Rule
from looks import (
    beyond, inside, make, make_folder, number_at, opened_folder, paths, refuses_deed, row_of, whole,
)


class Bases(unittest.TestCase):
    """At which spots a deed can be done at all."""

    def spots(self, host):
        """Spots at which no deed can be done, on a host with an open folder 1, an open file 2, a closed folder 3."""
        return [
            ("folder", ()), ("outside", ()), (1, ()), (2, ()), (2, ("x",)), (3, ("x",)), (99, ("x",)), (0, ("x",)),
            ("folder", ("none", "x")), ("outside", ("none", "x")), (1, ("none", "x")), (1, ("file", "x")),
        ]

    def host(self):
        host = Host(Rule())
        opened_folder(host, "d")
        make(host, "f", text="abc")
        host.program(("open", inside("f")))
        make_folder(host, "closed")
        make(host, "d", "file")
        return host

    def test_no_deed_can_be_done_there(self):
        host = self.host()
        for spot in self.spots(host):
            for deed in [
                ("make", spot, "t", False), ("make_folder", spot), ("make_other", spot), ("remove", spot),
                ("remove_folder", spot), ("rename", spot, inside("new")), ("rename", inside("f"), spot),
                ("cut", spot), ("write", spot, 0, "t"), ("set_runs", spot, True), ("read", spot), ("open", spot),
            ]:
                refuses_deed(self, host, deed)

    def test_a_folder_that_was_removed_is_no_base(self):
        host = Host(Rule())
        number = opened_folder(host, "d")
        host.program(("make", (number, ("x",)), "", False))
        host.program(("remove", (number, ("x",))))
        host.program(("remove_folder", inside("d")))
        self.assertEqual(host.opened, [number])
        refuses_deed(self, host, ("make", (number, ("x",)), "", False))
        refuses_deed(self, host, ("make_folder", (number, ("x",))))

    def test_a_folder_that_was_closed_is_no_base(self):
        host = Host(Rule())
        number = opened_folder(host, "d")
        host.program(("open", inside("d")))
        host.program(("close", number))
        host.program(("make", (number, ("x",)), "", False))
        host.program(("close", number))
        refuses_deed(self, host, ("make", (number, ("y",)), "", False))

    def test_an_open_folder_is_a_base_wherever_it_stands(self):
        host = Host(Rule())
        number = opened_folder(host, "d")
        host.program(("make_folder", (number, ("e",))))
        host.program(("rename", inside("d"), beyond("moved")))
        host.program(("make", (number, ("e", "x")), "1", False))
        self.assertEqual(paths(host.outside()), [("moved",), ("moved", "e"), ("moved", "e", "x")])
        host.program(("rename", beyond("moved"), inside("back")))
        self.assertEqual(host.ask(("take", ("back",), 0)), ("done",))
        host.program(("make", (number, ("e", "y")), "2", False))
        host.program(("remove", (number, ("e", "x"))))
        self.assertEqual(paths(host.shelf()[0][1]), [(), ("e",), ("e", "y")])

    def test_outside_and_the_folder_are_apart(self):
        host = Host(Rule())
        host.program(("make", inside("a"), "in", False))
        host.program(("make", beyond("a"), "out", True))
        self.assertEqual(host.tree(), [(("a",), "file", 1, 0, 0, "in", False)])
        self.assertEqual(host.outside(), [(("a",), "file", 2, 0, 0, "out", True)])
        host.program(("remove", beyond("a")))
        self.assertEqual(paths(host.tree()), [("a",)])
        self.assertEqual(host.outside(), [])


class Making(unittest.TestCase):
    def test_what_is_made(self):
        host = Host(Rule())
        host.program(("make", inside("a"), "text", True))
        host.program(("make_folder", inside("b")))
        host.program(("make_other", inside("c")))
        self.assertEqual(host.tree(), [
            (("a",), "file", 1, 0, 0, "text", True),
            (("b",), "folder", 2, 0, 0, "", False),
            (("c",), "other", 3, 0, 0, "", False),
        ])
        self.assertEqual(host.turned, 3)

    def test_no_number_is_used_twice(self):
        host = Host(Rule())
        make(host, "a")
        host.program(("remove", inside("a")))
        self.assertEqual(make(host, "a"), 2)
        host.program(("remove", inside("a")))
        self.assertEqual(host.ask(("make_folder", ("b",))), ("done",))
        self.assertEqual(number_at(host, "b"), 3)
        self.assertEqual(host.ask(("stage", 0, "", False)), ("done",))
        self.assertEqual(make(host, "c"), 5)

    def test_a_refused_deed_uses_no_number(self):
        host = Host(Rule())
        make(host, "a")
        refuses_deed(self, host, ("make", inside("a"), "", False))
        self.assertEqual(make(host, "b"), 2)

    def test_each_thing_that_makes_a_path_not_free(self):
        host = Host(Rule(alike=("Aa",), unfit=("con",), longest=48))
        make(host, "a")
        make_folder(host, "d")
        host.program(("make_other", inside("o")))
        for path in [(), ("a",), ("A",), ("d",), ("o",), ("none", "x"), ("a", "x"), ("o", "x"), ("con",),
                     ("d", "con"), ("x" * 49,), ("",), (".",), ("..",), ("x/y",), ("d", "x\n")]:
            for spot in [("folder", path)]:
                refuses_deed(self, host, ("make", spot, "", False))
                refuses_deed(self, host, ("make_folder", spot))
                refuses_deed(self, host, ("make_other", spot))
        host.program(("make", inside("x" * 48), "", False))
        host.program(("make_folder", inside("d", "a")))
        host.program(("make_other", inside("con2")))
        host.program(("make", inside("con2x"), "", False))

    def test_a_removed_thing_leaves_its_path_free(self):
        host = Host(Rule())
        make(host, "a")
        host.program(("remove", inside("a")))
        make_folder(host, "a")
        host.program(("remove_folder", inside("a")))
        host.program(("make_other", inside("a")))
        self.assertEqual(host.tree(), [(("a",), "other", 3, 0, 0, "", False)])

    def test_names_are_spelled_as_given_and_those_above_as_they_are(self):
        host = Host(Rule(alike=("Aa", "Bb")))
        make_folder(host, "aB")
        host.program(("make", inside("AB", "Ab"), "", False))
        host.program(("make_folder", inside("ab", "B")))
        host.program(("make_other", inside("Ab", "b", "A")))
        self.assertEqual(paths(host.tree()), [("aB",), ("aB", "Ab"), ("aB", "B"), ("aB", "B", "A")])


class Removing(unittest.TestCase):
    def test_remove(self):
        host = Host(Rule(alike=("Aa",)))
        make(host, "a")
        host.program(("make_other", inside("o")))
        host.program(("remove", inside("A")))
        host.program(("remove", inside("o")))
        self.assertEqual(host.tree(), [])
        self.assertEqual(host.turned, 4)

    def test_remove_refused(self):
        host = Host(Rule())
        make_folder(host, "d")
        refuses_deed(self, host, ("remove", inside("d")))
        refuses_deed(self, host, ("remove", inside("x")))
        refuses_deed(self, host, ("remove", beyond("d")))

    def test_remove_folder(self):
        host = Host(Rule())
        make_folder(host, "d")
        make_folder(host, "d", "e")
        host.program(("remove_folder", inside("d", "e")))
        host.program(("remove_folder", inside("d")))
        self.assertEqual(host.tree(), [])
        self.assertEqual(host.turned, 4)

    def test_remove_folder_refused(self):
        host = Host(Rule())
        make(host, "a")
        host.program(("make_other", inside("o")))
        for name, deed in [("d", "make_folder"), ("e", "make_other")]:
            make_folder(host, name)
            host.program((deed, inside(name, "x")))
        make_folder(host, "f")
        make(host, "f", "x")
        for name in ["a", "o", "d", "e", "f", "none"]:
            refuses_deed(self, host, ("remove_folder", inside(name)))

    def test_what_is_removed_while_it_is_open_can_only_be_closed(self):
        host = Host(Rule())
        number = make(host, "a", text="abc")
        host.program(("open", inside("a")))
        host.program(("remove", inside("a")))
        self.assertEqual(host.opened, [number])
        for deed in [("cut", number), ("write", number, 0, "x"), ("set_runs", number, True), ("read", number),
                     ("open", inside("a"))]:
            refuses_deed(self, host, deed)
        host.program(("close", number))
        self.assertEqual(host.opened, [])
        refuses_deed(self, host, ("close", number))


class Targets(unittest.TestCase):
    """The deeds that are done to a file: cut, write, set_runs, read."""

    def deeds(self, target):
        return [("cut", target), ("write", target, 0, "x"), ("set_runs", target, True), ("read", target)]

    def test_example(self):
        refuses_deed(self, Host(Rule()), ("cut", 7))

    def test_cut(self):
        host = Host(Rule())
        make(host, "a", text="abc")
        host.program(("cut", inside("a")))
        self.assertEqual(host.tree(), [(("a",), "file", 1, 1, 1, "", False)])
        host.program(("cut", inside("a")))
        self.assertEqual(host.tree(), [(("a",), "file", 1, 2, 2, "", False)])
        self.assertEqual(host.turned, 1)

    def test_write(self):
        host = Host(Rule())
        make(host, "a", text="abcdef")
        for at, text, expected in [
            (0, "XY", "XYcdef"), (2, "--", "XY--ef"), (5, "ghi", "XY--eghi"), (8, "!", "XY--eghi!"),
            (3, "", "XY--eghi!"), (0, "0123456789ab", "0123456789ab"), (12, "", "0123456789ab"),
        ]:
            host.program(("write", inside("a"), at, text))
            self.assertEqual(host.tree()[0][5], expected)
        self.assertEqual(host.tree()[0][3:5], (7, 0))
        self.assertEqual(host.turned, 1)

    def test_write_beyond_the_end(self):
        host = Host(Rule())
        make(host, "a", text="abc")
        make(host, "b")
        refuses_deed(self, host, ("write", inside("a"), 4, "x"))
        refuses_deed(self, host, ("write", inside("a"), 4, ""))
        refuses_deed(self, host, ("write", inside("b"), 1, "x"))
        host.program(("write", inside("b"), 0, "x"))
        self.assertEqual(host.tree()[1][5], "x")

    def test_set_runs(self):
        host = Host(Rule())
        make(host, "a", text="abc")
        host.program(("set_runs", inside("a"), True))
        self.assertEqual(host.tree(), [(("a",), "file", 1, 1, 0, "abc", True)])
        host.program(("set_runs", inside("a"), True))
        host.program(("set_runs", inside("a"), False))
        self.assertEqual(host.tree(), [(("a",), "file", 1, 3, 0, "abc", False)])
        self.assertEqual(host.turned, 1)

    def test_read(self):
        host = Host(Rule())
        number = make(host, "a", text="abc")
        before = (host.tree(), host.turned)
        host.program(("read", inside("a")))
        self.assertEqual((host.tree(), host.turned), before)
        self.assertEqual(host.ask(("was_read", number, 0)), ("was_read", True))

    def test_a_number_of_an_open_file(self):
        host = Host(Rule())
        number = make(host, "a", text="abc")
        make(host, "b")
        host.program(("open", inside("a")))
        host.program(("write", number, 3, "d"))
        host.program(("rename", inside("a"), beyond("c")))
        host.program(("set_runs", number, True))
        host.program(("read", number))
        self.assertEqual(row_of(host, number), (("c",), "file", number, 2, 0, "abcd", True))
        host.program(("cut", number))
        self.assertEqual(row_of(host, number), (("c",), "file", number, 3, 1, "", True))
        self.assertEqual(host.ask(("was_read", number, 2)), ("was_read", True))

    def test_an_open_file_on_the_shelf(self):
        host = Host(Rule())
        number = make(host, "a", text="abc")
        host.program(("open", inside("a")))
        self.assertEqual(host.ask(("take", ("a",), 4)), ("done",))
        host.program(("write", number, 0, "X"))
        self.assertEqual(host.shelf(), [(4, [((), "file", number, 1, 0, "Xbc", False)])])

    def test_numbers_that_are_no_target(self):
        host = Host(Rule())
        closed = make(host, "closed")
        folder = opened_folder(host, "d")
        host.program(("make_other", inside("o")))
        other = number_at(host, "o")
        host.program(("open", inside("o")))
        for target in [closed, folder, other, 0, 99]:
            for deed in self.deeds(target):
                refuses_deed(self, host, deed)

    def test_spots_that_are_no_target(self):
        host = Host(Rule())
        make_folder(host, "d")
        host.program(("make_other", inside("o")))
        for spot in [inside("d"), inside("o"), inside("none"), beyond("d"), inside("o", "x")]:
            for deed in self.deeds(spot):
                refuses_deed(self, host, deed)

    def test_a_spot_in_an_open_folder(self):
        host = Host(Rule(alike=("Aa",)))
        folder = opened_folder(host, "d")
        host.program(("make", (folder, ("a",)), "abc", False))
        for deed in self.deeds((folder, ("A",))):
            host.program(deed)
        self.assertEqual(host.tree()[1], (("d", "a"), "file", 2, 3, 1, "x", True))
        self.assertEqual(host.ask(("was_read", 2, 3)), ("was_read", True))


class Opening(unittest.TestCase):
    def test_everything_can_be_opened(self):
        host = Host(Rule(alike=("Aa",)))
        make(host, "a")
        make_folder(host, "d")
        host.program(("make_other", inside("o")))
        before = (host.tree(), host.turned)
        for name in ["A", "d", "o", "a"]:
            host.program(("open", inside(name)))
        self.assertEqual(host.opened, [1, 3, 2, 1])
        self.assertEqual((host.tree(), host.turned), before)

    def test_closing_takes_the_first_one(self):
        host = Host(Rule())
        for name in ["a", "b"]:
            make(host, name)
        for name in ["a", "b", "a", "b", "a"]:
            host.program(("open", inside(name)))
        self.assertEqual(host.opened, [1, 2, 1, 2, 1])
        host.program(("close", 2))
        self.assertEqual(host.opened, [1, 1, 2, 1])
        host.program(("close", 1))
        self.assertEqual(host.opened, [1, 2, 1])
        host.program(("close", 1))
        self.assertEqual(host.opened, [2, 1])

    def test_refused(self):
        host = Host(Rule())
        make(host, "a")
        refuses_deed(self, host, ("open", inside("none")))
        refuses_deed(self, host, ("open", ("folder", ())))
        refuses_deed(self, host, ("close", 1))
        refuses_deed(self, host, ("close", 99))

    def test_it_stays_open_where_it_goes(self):
        host = Host(Rule())
        number = make(host, "a")
        host.program(("open", inside("a")))
        host.program(("rename", inside("a"), inside("b")))
        host.ask(("take", ("b",), 0))
        self.assertEqual(host.opened, [number])
        host.program(("close", number))
        self.assertEqual(host.opened, [])

    def test_an_open_thing_in_a_folder(self):
        host = Host(Rule())
        folder = opened_folder(host, "d")
        host.program(("make", (folder, ("x",)), "abc", False))
        host.program(("open", (folder, ("x",))))
        self.assertEqual(host.opened, [2, 1])


class Passing(unittest.TestCase):
    def test_program_returns_nothing(self):
        host = Host(Rule())
        self.assertIsNone(host.program(("make", inside("a"), "", False)))
        self.assertIsNone(host.program(("read", inside("a"))))
        self.assertIsNone(host.program(("open", inside("a"))))
        self.assertIsNone(host.program(("close", 1)))

    def test_an_empty_host(self):
        rule = Rule()
        host = Host(rule)
        self.assertIs(host.rule, rule)
        self.assertEqual((host.turned, host.opened), (0, []))
        self.assertEqual((host.tree(), host.outside(), host.shelf()), ([], [], []))
        self.assertEqual(whole(host)[-3:], ([1], [], []))


if __name__ == "__main__":
    unittest.main()
