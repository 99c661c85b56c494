"""Points 55 to 73 together: whole scans of a host on which programs work."""

import unittest

from foldkeep.hosts import Host
from foldkeep.names import Rule
from foldkeep.scanning import Scan, answer_to_scan, scan_question
from keeps import a_state, looks_of, mark, rows, run_scan
from looks import beyond, inside, make, make_folder, number_at


class Scans(unittest.TestCase):
    def setUp(self):
        self.host = Host(Rule())
        self.state = a_state()

    def scan(self, between=None):
        """Runs a scan and returns the edits that it made."""
        before = len(self.state.know.rest)
        run_scan(self.host, self.state, between)
        return self.state.know.rest[before:]

    def do(self, *deeds):
        for deed in deeds:
            self.host.program(deed)

    def kinds(self, between=None):
        return [edit[0] for edit in self.scan(between)]

    def shown(self):
        """What is placed: paths and contents."""
        return sorted([(entry.path, entry.content) for entry in self.state.placed])

    def check_that_nothing_is_new(self):
        """A second scan tells nothing and changes nothing but the stage."""
        before = looks_of(self.state)
        self.assertEqual(self.scan(), [])
        self.assertEqual(looks_of(self.state), before)


class OneAfterTheOther(Scans):
    def test_the_second_one_tells_nothing(self):
        make_folder(self.host, "d")
        make_folder(self.host, "d", "e")
        make(self.host, "d", "a.txt", text="one")
        make(self.host, "b", text="two", runs=True)
        self.do(("make_other", inside("link")))
        edits = self.scan()
        self.assertEqual([edit[:4] for edit in edits], [
            ("write", (1, 0), (None, ("d",), ("d",)), None),
            ("write", (2, 0), ((1, 0), ("e",), ("d", "e")), None),
            ("write", (3, 0), (None, ("b",), ("b",)), mark("two", True)),
            ("write", (4, 0), ((1, 0), ("a.txt",), ("d", "a.txt")), mark("one")),
        ])
        self.assertEqual(self.state.taken, [("link",)])
        self.assertEqual(self.state.stage, ("look",))
        self.check_that_nothing_is_new()

    def test_an_empty_folder(self):
        self.assertEqual(self.scan(), [])
        self.check_that_nothing_is_new()

    def test_what_is_known_of_files_is_not_read_again(self):
        make(self.host, "a", text="one")
        make(self.host, "b", text="two")
        self.scan()
        self.do(("write", inside("a"), 0, "O"))
        asked = run_scan(self.host, self.state)
        self.assertEqual(asked, [("total",), ("names", ()), ("total",), ("read", ("a",))])
        self.check_that_nothing_is_new()

    def test_programs_write_rename_and_remove(self):
        make_folder(self.host, "d")
        for name in ["a", "b", "c"]:
            make(self.host, name, text=name)
        self.scan()
        self.do(
            ("write", inside("a"), 1, "!"), ("rename", inside("b"), inside("d", "b2")), ("remove", inside("c")),
            ("rename", inside("d"), inside("e")), ("make", inside("f"), "f", False))
        edits = self.scan()
        self.assertEqual([edit[0] for edit in edits], ["move", "write", "write", "drop"])
        self.assertEqual(edits[0][2], (
            ((1, 0), (1, 0), (None, ("e",), ("e",))), ((3, 0), (3, 0), ((1, 0), ("b2",), ("e", "b2")))))
        self.assertEqual(edits[1][3:], (mark("a!"), (2, 0), ((2, 0),)))
        self.assertEqual(edits[2][3:], (mark("f"), None, ()))
        self.assertEqual(edits[3][2], ((4, 0),))
        self.assertEqual(self.shown(), [
            (("a",), mark("a!")), (("e",), None), (("e", "b2"), mark("b")), (("f",), mark("f"))])
        self.check_that_nothing_is_new()

    def test_a_folder_is_removed_with_all_that_is_in_it(self):
        make_folder(self.host, "d")
        make(self.host, "d", "a", text="x")
        self.scan()
        self.do(("rename", inside("d"), beyond("d")))
        edits = self.scan()
        self.assertEqual(edits, [("drop", (3, 0), ((1, 0), (2, 0)))])
        self.assertEqual((self.state.placed, self.state.had, self.state.know.lines()), ([], [], []))
        self.check_that_nothing_is_new()

    def test_two_files_exchange_their_names(self):
        make(self.host, "a", text="one")
        make(self.host, "b", text="two")
        self.scan()
        self.do(("rename", inside("a"), beyond("t")), ("rename", inside("b"), inside("a")), ("rename", beyond("t"), inside("b")))
        edits = self.scan()
        # Programs have had what stood there, so each file becomes the new text of the line at its path.
        self.assertEqual([edit[3:] for edit in edits], [
            (mark("two"), (1, 0), ((1, 0),)), (mark("one"), (2, 0), ((2, 0),))])
        self.check_that_nothing_is_new()

    def test_an_editor_that_replaces_a_file_by_another_one(self):
        make(self.host, "a", text="one")
        self.scan()
        self.do(("make", inside("a~"), "one, two", False), ("rename", inside("a~"), inside("a")))
        edits = self.scan()
        self.assertEqual(edits, [("write", (2, 0), (None, ("a",), ("a",)), mark("one, two"), (1, 0), ((1, 0),))])
        self.check_that_nothing_is_new()

    def test_a_host_that_does_not_tell_how_often_names_were_changed(self):
        self.host = Host(Rule(turns=False))
        make(self.host, "a", text="one")
        self.scan()
        self.do(("rename", inside("a"), inside("b")))
        self.assertEqual(self.kinds(), ["write"])
        # The old file stays placed, as the scan cannot be sure that it is gone.
        self.assertEqual(self.shown(), [(("a",), mark("one")), (("b",), mark("one"))])
        self.check_that_nothing_is_new()

    def test_names_that_are_ignored(self):
        self.state = a_state(ignores=("*.tmp", ".cache"))
        make_folder(self.host, ".cache")
        make(self.host, ".cache", "a", text="x")
        make(self.host, "b.tmp", text="y")
        make(self.host, "c", text="z")
        self.scan()
        self.assertEqual(self.shown(), [(("c",), mark("z"))])
        self.assertEqual(self.state.taken, [(".cache",), ("b.tmp",)])
        self.do(("rename", inside("c"), inside("c.tmp")))
        self.assertEqual(self.kinds(), ["drop"])
        self.assertEqual(self.shown(), [])
        self.check_that_nothing_is_new()


class InBetween(Scans):
    """Programs do deeds between the questions of a scan."""

    def at(self, number, *deeds):
        """Does these deeds ahead of the question with this number."""
        def between(asked):
            if asked == number:
                self.do(*deeds)
        return between

    def test_a_file_that_is_moved_from_a_folder_that_is_still_to_come_to_one_that_was_looked_into(self):
        make_folder(self.host, "d")
        make_folder(self.host, "e")
        make(self.host, "e", "a", text="x")
        self.scan()
        edits = self.scan(self.at(3, ("rename", inside("e", "a"), inside("d", "a"))))
        # It was found nowhere, but as the names were not at rest, nothing is told.
        self.assertEqual(edits, [])
        self.assertIn(("e", "a"), [entry.path for entry in self.state.placed])
        edits = self.scan()
        self.assertEqual([edit[0] for edit in edits], ["move"])
        self.check_that_nothing_is_new()

    def test_a_file_that_is_found_twice(self):
        make_folder(self.host, "d")
        make_folder(self.host, "e")
        make(self.host, "d", "a", text="x")
        self.scan()
        edits = self.scan(self.at(3, ("rename", inside("d", "a"), inside("e", "b"))))
        self.assertEqual([edit[0] for edit in edits], ["write"])
        self.assertEqual(self.kinds(), ["drop"])
        self.check_that_nothing_is_new()

    def test_a_file_that_is_written_before_it_is_read(self):
        make(self.host, "a", text="x")
        edits = self.scan(self.at(3, ("write", inside("a"), 1, "y")))
        self.assertEqual([edit[3] for edit in edits], [mark("xy")])
        self.assertEqual(rows(self.state.placed)[0][3], 1)
        self.check_that_nothing_is_new()

    def test_a_file_that_is_removed_before_it_is_read(self):
        make(self.host, "a", text="x")
        self.scan()
        self.do(("write", inside("a"), 1, "y"))
        before = rows(self.state.placed)
        edits = self.scan(self.at(3, ("remove", inside("a"))))
        self.assertEqual(edits, [])
        self.assertEqual(rows(self.state.placed), before)
        self.assertEqual(self.kinds(), ["drop"])
        self.check_that_nothing_is_new()

    def test_a_renamed_file_that_is_removed_before_it_is_read_waits(self):
        make(self.host, "a", text="x")
        self.scan()
        self.do(("write", inside("a"), 1, "y"), ("rename", inside("a"), inside("b")))
        before = rows(self.state.placed)
        self.assertEqual(self.scan(self.at(3, ("remove", inside("b")))), [])
        self.assertEqual(rows(self.state.placed), before)
        self.assertEqual(self.kinds(), ["drop"])

    def test_another_file_comes_to_the_path_before_it_is_read(self):
        make(self.host, "a", text="x")
        self.scan()
        self.do(("write", inside("a"), 1, "y"))
        edits = self.scan(self.at(
            3, ("rename", inside("a"), beyond("a")), ("make", inside("a"), "new", True)))
        self.assertEqual([edit[3:] for edit in edits], [(mark("new", True), (1, 0), ((1, 0),))])
        self.assertEqual(self.state.placed[0].thing, number_at(self.host, "a"))
        self.check_that_nothing_is_new()

    def test_a_folder_that_is_renamed_before_it_is_looked_into(self):
        make_folder(self.host, "d")
        make(self.host, "d", "a", text="x")
        self.scan()
        edits = self.scan(self.at(2, ("rename", inside("d"), inside("e"))))
        self.assertEqual(edits, [])
        self.assertEqual(self.shown(), [(("d",), None), (("d", "a"), mark("x"))])
        self.assertEqual(self.kinds(), ["move"])
        self.assertEqual(self.shown(), [(("e",), None), (("e", "a"), mark("x"))])
        self.check_that_nothing_is_new()

    def test_whatever_a_program_does_at_whatever_moment_is_told_by_the_next_scan(self):
        deeds = [
            ("make", inside("n"), "new", False), ("make_folder", inside("n")), ("remove", inside("a")),
            ("rename", inside("a"), inside("d", "a")), ("rename", inside("d", "b"), inside("c")),
            ("rename", inside("d"), inside("z")), ("write", inside("a"), 0, "other"), ("cut", inside("d", "b")),
            ("set_runs", inside("a"), True), ("rename", inside("a"), inside("d", "b")), ("rename", inside("d"), beyond("d")),
            ("rename", inside("a"), inside("A")), ("make_other", inside("o")),
        ]
        for deed in deeds:
            for number in range(8):
                with self.subTest(deed=deed, number=number):
                    self.host = Host(Rule())
                    self.state = a_state()
                    make(self.host, "a", text="one")
                    make_folder(self.host, "d")
                    make(self.host, "d", "b", text="two")
                    self.scan()
                    self.scan(self.at(number, deed))
                    self.host.program(("make", inside("last"), "", False))
                    self.scan()
                    expected = sorted(
                        [(row[0], mark(row[5], row[6]) if row[1] == "file" else None)
                         for row in self.host.tree() if row[1] != "other"])
                    self.assertEqual(self.shown(), expected)
                    self.check_that_nothing_is_new()


class Refusals(Scans):
    def test_a_host_that_refuses_everything_but_totals(self):
        make(self.host, "a", text="x")
        self.scan()
        before = looks_of(self.state)
        scan = Scan([(1, 0)])
        self.state.scan = scan
        self.state.stage = ("scan",)
        self.assertIs(answer_to_scan(self.state, scan, ("total", 3)), True)
        self.assertIs(answer_to_scan(self.state, scan, ("refused",)), True)
        self.assertIs(answer_to_scan(self.state, scan, ("total", 3)), True)
        self.assertEqual((scan.phase, scan.at_rest, scan.found), ("end", False, []))
        self.assertEqual(scan_question(Scan([])), ("total",))
        self.assertEqual(looks_of(self.state), {**before, "stage": ("scan",)})


if __name__ == "__main__":
    unittest.main()
