import unittest

from foldkeep.hosts import Host
from foldkeep.names import Rule
from looks import (
    beyond, does, inside, make, make_folder, number_at, opened_folder, paths, refuses, whole,
)


class Names(unittest.TestCase):
    def test_rows_in_order(self):
        host = Host(Rule())
        make(host, "b", text="abc", runs=True)
        make_folder(host, "a")
        host.program(("make_other", inside("B")))
        make(host, "a", "deep")
        host.program(("cut", inside("b")))
        host.program(("write", inside("b"), 0, "x"))
        host.program(("make", beyond("out"), "", False))
        self.assertEqual(host.ask(("names", ())), ("names", [
            ("B", 3, "other", 0, 0), ("a", 2, "folder", 0, 0), ("b", 1, "file", 2, 1)]))
        self.assertEqual(host.ask(("names", ("a",))), ("names", [("deep", 4, "file", 0, 0)]))

    def test_an_empty_folder(self):
        host = Host(Rule(alike=("Dd",)))
        self.assertEqual(host.ask(("names", ())), ("names", []))
        make_folder(host, "d")
        self.assertEqual(host.ask(("names", ("D",))), ("names", []))

    def test_names_are_told_as_they_are_spelled(self):
        host = Host(Rule(alike=("Aa",)))
        make_folder(host, "Aa")
        make(host, "Aa", "aA")
        self.assertEqual(host.ask(("names", ("AA",))), ("names", [("aA", 2, "file", 0, 0)]))

    def test_refused(self):
        host = Host(Rule())
        make(host, "a")
        host.program(("make_other", inside("o")))
        for path in [("a",), ("o",), ("none",), ("a", "x"), ("none", "x")]:
            refuses(self, host, ("names", path))

    def test_asking_changes_nothing(self):
        host = Host(Rule())
        make(host, "a")
        before = whole(host)
        host.ask(("names", ()))[1].clear()
        host.ask(("shelf",))[1].append(1)
        for operation in [("total",), ("read", ("a",)), ("was_read", 1, 0), ("shelf",), ("names", ())]:
            host.ask(operation)
        self.assertEqual(whole(host), before)


class Totals(unittest.TestCase):
    def test_total(self):
        host = Host(Rule())
        self.assertEqual(host.ask(("total",)), ("total", 0))
        make(host, "a")
        host.program(("write", inside("a"), 0, "x"))
        self.assertEqual(host.ask(("total",)), ("total", 1))
        make(host, "b")
        host.program(("rename", inside("a"), inside("b")))
        self.assertEqual(host.ask(("total",)), ("total", 4))
        self.assertEqual(host.turned, 4)

    def test_not_told(self):
        host = Host(Rule(turns=False))
        make(host, "a")
        self.assertEqual(host.ask(("total",)), ("total", None))
        self.assertEqual(host.turned, 1)


class Reads(unittest.TestCase):
    def test_read(self):
        host = Host(Rule(alike=("Aa",)))
        make(host, "a", text="abc", runs=True)
        self.assertEqual(host.ask(("read", ("A",))), ("text", 1, 0, 0, "abc", True))
        host.program(("cut", inside("a")))
        self.assertEqual(host.ask(("read", ("a",))), ("text", 1, 1, 1, "", True))

    def test_read_refused(self):
        host = Host(Rule())
        make_folder(host, "d")
        host.program(("make_other", inside("o")))
        host.program(("make", beyond("x"), "", False))
        for path in [(), ("d",), ("o",), ("x",), ("d", "x"), ("o", "x")]:
            refuses(self, host, ("read", path))

    def test_read_shelf(self):
        host = Host(Rule())
        make(host, "a", text="abc", runs=True)
        host.program(("cut", inside("a")))
        host.program(("write", inside("a"), 0, "new"))
        host.ask(("take", ("a",), 7))
        self.assertEqual(host.ask(("read_shelf", 7)), ("text", 1, 2, 1, "new", True))

    def test_read_shelf_refused(self):
        host = Host(Rule())
        make(host, "a")
        make_folder(host, "d")
        host.program(("make_other", inside("o")))
        host.ask(("take", ("d",), 0))
        host.ask(("take", ("o",), 1))
        for place in [0, 1, 2]:
            refuses(self, host, ("read_shelf", place))

    def test_a_keeper_that_reads_is_no_program(self):
        host = Host(Rule())
        make(host, "a")
        host.ask(("read", ("a",)))
        host.ask(("take", ("a",), 0))
        host.ask(("read_shelf", 0))
        self.assertEqual(host.ask(("was_read", 1, 0)), ("was_read", False))


class WasRead(unittest.TestCase):
    def test_by_count(self):
        host = Host(Rule())
        make(host, "a")
        make(host, "b")
        self.assertEqual(host.ask(("was_read", 1, 0)), ("was_read", False))
        host.program(("write", inside("a"), 0, "x"))
        host.program(("read", inside("a")))
        host.program(("write", inside("a"), 0, "y"))
        self.assertEqual(host.ask(("was_read", 1, 0)), ("was_read", False))
        self.assertEqual(host.ask(("was_read", 1, 1)), ("was_read", True))
        self.assertEqual(host.ask(("was_read", 1, 2)), ("was_read", False))
        self.assertEqual(host.ask(("was_read", 2, 1)), ("was_read", False))
        self.assertEqual(host.ask(("was_read", 99, 0)), ("was_read", False))
        self.assertIs(host.ask(("was_read", 1, 1))[1], True)
        self.assertIs(host.ask(("was_read", 1, 2))[1], False)

    def test_wherever_the_file_is(self):
        host = Host(Rule())
        make(host, "a")
        host.program(("open", inside("a")))
        host.ask(("take", ("a",), 0))
        host.program(("read", 1))
        self.assertEqual(host.ask(("was_read", 1, 0)), ("was_read", True))
        host.program(("close", 1))
        host.ask(("drop", 0, 0))
        self.assertEqual(host.ask(("was_read", 1, 0)), ("was_read", True))

    def test_not_told(self):
        host = Host(Rule(reads=False))
        make(host, "a")
        host.program(("read", inside("a")))
        for operation in [("was_read", 1, 0), ("was_read", 1, 1), ("was_read", 99, 0)]:
            self.assertEqual(host.ask(operation), ("was_read", None))


class Shelves(unittest.TestCase):
    def test_rows_in_order(self):
        host = Host(Rule())
        make(host, "a", text="abc")
        make_folder(host, "d")
        make(host, "d", "x", text="x")
        host.program(("make_other", inside("o")))
        host.program(("cut", inside("a")))
        host.program(("write", inside("a"), 0, "four"))
        host.ask(("take", ("a",), 10))
        host.ask(("take", ("d",), 9))
        host.ask(("take", ("o",), 0))
        self.assertEqual(host.ask(("shelf",)), ("shelf", [
            (0, 4, "other", 0, 0, 0), (9, 2, "folder", 0, 0, 0), (10, 1, "file", 2, 1, 4)]))

    def test_empty(self):
        self.assertEqual(Host(Rule()).ask(("shelf",)), ("shelf", []))


class Stages(unittest.TestCase):
    def test_a_new_file_and_what_is_added(self):
        host = Host(Rule())
        does(self, host, ("stage", 3, "one", True), 1)
        self.assertEqual(host.shelf(), [(3, [((), "file", 1, 0, 0, "one", True)])])
        does(self, host, ("stage", 3, " two", False), 0)
        self.assertEqual(host.shelf(), [(3, [((), "file", 1, 1, 0, "one two", False)])])
        does(self, host, ("stage", 3, "", False), 0)
        self.assertEqual(host.shelf(), [(3, [((), "file", 1, 2, 0, "one two", False)])])
        does(self, host, ("stage", 2, "", False), 1)
        self.assertEqual(host.ask(("shelf",))[1], [(2, 2, "file", 0, 0, 0), (3, 1, "file", 2, 0, 7)])

    def test_what_is_not_staged(self):
        host = Host(Rule())
        make(host, "a")
        make_folder(host, "d")
        host.program(("make_other", inside("o")))
        for place, name in enumerate(["a", "d", "o"]):
            host.ask(("take", (name,), place))
            refuses(self, host, ("stage", place, "x", False))

    def test_it_counts_as_staged_as_long_as_it_lies_there(self):
        host = Host(Rule())
        host.ask(("stage", 0, "one", False))
        host.ask(("give", 0, ("a",)))
        host.ask(("take", ("a",), 0))
        refuses(self, host, ("stage", 0, "x", False))
        host.ask(("stage", 1, "two", False))
        make(host, "b")
        host.ask(("swap", 1, ("b",)))
        refuses(self, host, ("stage", 1, "x", False))
        host.ask(("take", ("b",), 2))
        refuses(self, host, ("stage", 2, "x", False))

    def test_a_place_that_was_given_up(self):
        host = Host(Rule())
        host.ask(("stage", 0, "one", False))
        host.ask(("drop", 0, 0))
        does(self, host, ("stage", 0, "two", False), 1)
        self.assertEqual(host.shelf(), [(0, [((), "file", 2, 0, 0, "two", False)])])


class Takes(unittest.TestCase):
    def test_take(self):
        host = Host(Rule(alike=("Aa",)))
        make_folder(host, "a")
        make(host, "a", "x", text="abc")
        does(self, host, ("take", ("A", "x"), 1), 1)
        does(self, host, ("take", ("A",), 0), 1)
        self.assertEqual(host.tree(), [])
        self.assertEqual(host.shelf(), [
            (0, [((), "folder", 1, 0, 0, "", False)]), (1, [((), "file", 2, 0, 0, "abc", False)])])

    def test_refused(self):
        host = Host(Rule())
        make(host, "a")
        make(host, "b")
        host.program(("make", beyond("out"), "", False))
        host.ask(("take", ("b",), 0))
        for path, place in [((), 1), (("b",), 1), (("out",), 1), (("a", "x"), 1), (("a",), 0)]:
            refuses(self, host, ("take", path, place))
        host.ask(("stage", 5, "", False))
        refuses(self, host, ("take", ("a",), 5))

    def test_example(self):
        host = Host(Rule(alike=("Aa",)))
        host.program(("make", ("folder", ("A.txt",)), "hi", False))
        self.assertEqual(host.ask(("take", ("a.txt",), 3)), ("done",))
        self.assertEqual(host.shelf(), [(3, [((), "file", 1, 0, 0, "hi", False)])])


class Gives(unittest.TestCase):
    def test_give(self):
        host = Host(Rule(alike=("Dd",)))
        make_folder(host, "d")
        make(host, "a", text="abc", runs=True)
        host.ask(("take", ("a",), 0))
        does(self, host, ("give", 0, ("D", "Dd")), 1)
        self.assertEqual(host.tree()[1], (("d", "Dd"), "file", 2, 0, 0, "abc", True))
        self.assertEqual(host.shelf(), [])
        refuses(self, host, ("give", 0, ("b",)))
        host.ask(("take", ("d",), 1))
        does(self, host, ("give", 1, ("e",)), 1)
        self.assertEqual(paths(host.tree()), [("e",), ("e", "Dd")])

    def test_refused(self):
        host = Host(Rule(alike=("Aa",), unfit=("con",), longest=48))
        make(host, "a")
        make_folder(host, "d")
        host.ask(("stage", 0, "", False))
        for path in [(), ("a",), ("A",), ("d",), ("none", "x"), ("a", "x"), ("con",), ("x" * 49,), ("",)]:
            refuses(self, host, ("give", 0, path))
        refuses(self, host, ("give", 1, ("b",)))
        does(self, host, ("give", 0, ("d", "b")), 1)


class Swaps(unittest.TestCase):
    def test_swap(self):
        host = Host(Rule(alike=("Aa", "Dd")))
        make_folder(host, "d")
        make(host, "d", "a", text="one")
        make(host, "b", text="two")
        host.ask(("take", ("b",), 4))
        does(self, host, ("swap", 4, ("D", "A")), 1)
        self.assertEqual(host.tree()[1], (("d", "a"), "file", 3, 0, 0, "two", False))
        self.assertEqual(host.shelf(), [(4, [((), "file", 2, 0, 0, "one", False)])])

    def test_with_a_folder(self):
        host = Host(Rule())
        make_folder(host, "d")
        make(host, "d", "x")
        host.ask(("stage", 0, "one", False))
        does(self, host, ("swap", 0, ("d",)), 1)
        self.assertEqual(host.tree(), [(("d",), "file", 3, 0, 0, "one", False)])
        self.assertEqual(paths(host.shelf()[0][1]), [(), ("x",)])
        does(self, host, ("swap", 0, ("d",)), 1)
        self.assertEqual(paths(host.tree()), [("d",), ("d", "x")])

    def test_refused(self):
        host = Host(Rule())
        make(host, "a")
        host.ask(("stage", 0, "", False))
        refuses(self, host, ("swap", 1, ("a",)))
        for path in [(), ("b",), ("a", "x")]:
            refuses(self, host, ("swap", 0, path))

    def test_without_swaps(self):
        host = Host(Rule(swaps=False))
        make(host, "a")
        host.ask(("stage", 0, "", False))
        refuses(self, host, ("swap", 0, ("a",)))


class Folders(unittest.TestCase):
    def test_make_folder(self):
        host = Host(Rule(alike=("Dd",)))
        does(self, host, ("make_folder", ("d",)), 1)
        does(self, host, ("make_folder", ("D", "Dd")), 1)
        self.assertEqual(host.tree(), [
            (("d",), "folder", 1, 0, 0, "", False), (("d", "Dd"), "folder", 2, 0, 0, "", False)])

    def test_make_folder_refused(self):
        host = Host(Rule(alike=("Aa",), unfit=("con",), longest=48))
        make(host, "a")
        make_folder(host, "d")
        host.program(("make_other", inside("o")))
        for path in [(), ("a",), ("A",), ("d",), ("o",), ("none", "x"), ("a", "x"), ("con",), ("x" * 49,)]:
            refuses(self, host, ("make_folder", path))

    def test_remove_folder(self):
        host = Host(Rule(alike=("Dd",)))
        make_folder(host, "d")
        make_folder(host, "d", "e")
        does(self, host, ("remove_folder", ("D", "e")), 1)
        does(self, host, ("remove_folder", ("D",)), 1)
        self.assertEqual(host.tree(), [])

    def test_remove_folder_refused(self):
        host = Host(Rule())
        make(host, "a")
        host.program(("make_other", inside("o")))
        make_folder(host, "d")
        make(host, "d", "x")
        make_folder(host, "e")
        make_folder(host, "e", "x")
        for path in [(), ("a",), ("o",), ("d",), ("e",), ("none",)]:
            refuses(self, host, ("remove_folder", path))

    def test_an_open_folder_can_be_removed(self):
        host = Host(Rule())
        number = opened_folder(host, "d")
        does(self, host, ("remove_folder", ("d",)), 1)
        self.assertEqual(host.opened, [number])


class Drops(unittest.TestCase):
    def test_drop(self):
        host = Host(Rule())
        make(host, "a")
        host.program(("write", inside("a"), 0, "x"))
        host.ask(("take", ("a",), 2))
        does(self, host, ("drop", 2, 1), 1)
        self.assertEqual(host.shelf(), [])
        refuses(self, host, ("drop", 2, 1))

    def test_refused(self):
        host = Host(Rule())
        make(host, "a")
        make_folder(host, "d")
        host.program(("make_other", inside("o")))
        for place, name in enumerate(["a", "d", "o"]):
            host.ask(("take", (name,), place))
        for place, count in [(0, 1), (1, 0), (2, 0), (3, 0)]:
            refuses(self, host, ("drop", place, count))
        does(self, host, ("drop", 0, 0), 1)

    def test_an_open_file(self):
        host = Host(Rule())
        number = make(host, "a")
        host.program(("open", inside("a")))
        host.program(("open", inside("a")))
        host.ask(("take", ("a",), 0))
        refuses(self, host, ("drop", 0, 0))
        host.program(("close", number))
        refuses(self, host, ("drop", 0, 0))
        host.program(("close", number))
        does(self, host, ("drop", 0, 0), 1)


class Cuts(unittest.TestCase):
    """A host that does not tell cuts has them all the same."""

    def test_every_answer_has_nought(self):
        host = Host(Rule(cuts=False))
        make(host, "a", text="abc")
        host.program(("cut", inside("a")))
        self.assertEqual(host.ask(("names", ())), ("names", [("a", 1, "file", 1, 0)]))
        self.assertEqual(host.ask(("read", ("a",))), ("text", 1, 1, 0, "", False))
        self.assertEqual(host.tree(), [(("a",), "file", 1, 1, 1, "", False)])
        host.ask(("take", ("a",), 0))
        self.assertEqual(host.ask(("shelf",)), ("shelf", [(0, 1, "file", 1, 0, 0)]))
        self.assertEqual(host.ask(("read_shelf", 0)), ("text", 1, 1, 0, "", False))
        self.assertEqual(host.shelf(), [(0, [((), "file", 1, 1, 1, "", False)])])


class Looking(unittest.TestCase):
    """tree(), outside() and shelf()."""

    def test_ordered_by_path(self):
        host = Host(Rule())
        for base in ["folder", "outside"]:
            for name in ["b", "a", "a b"]:
                host.program(("make_folder", (base, (name,))))
            for path in [("b", "x"), ("a", "z"), ("a", "a"), ("a b", "c"), ("B",)]:
                host.program(("make", (base, path), "", False))
        expected = [("B",), ("a",), ("a", "a"), ("a", "z"), ("a b",), ("a b", "c"), ("b",), ("b", "x")]
        self.assertEqual(paths(host.tree()), expected)
        self.assertEqual(paths(host.outside()), expected)
        make_folder(host, "a", "m")
        make(host, "a", "m", "n")
        host.ask(("take", ("a",), 1))
        self.assertEqual(paths(host.shelf()[0][1]), [(), ("a",), ("m",), ("m", "n"), ("z",)])

    def test_places_in_order(self):
        host = Host(Rule())
        for place in [10, 9, 100, 0]:
            host.ask(("stage", place, str(place), False))
        self.assertEqual([(place, rows[0][5]) for place, rows in host.shelf()], [
            (0, "0"), (9, "9"), (10, "10"), (100, "100")])

    def test_the_lists_are_new(self):
        host = Host(Rule())
        make(host, "a")
        host.program(("make", beyond("b"), "", False))
        host.ask(("stage", 0, "", False))
        before = whole(host)
        host.tree().clear()
        host.outside().clear()
        host.shelf()[0][1].clear()
        host.shelf().clear()
        self.assertEqual(whole(host), before)

    def test_a_deep_tree(self):
        host = Host(Rule())
        depth = 1500
        host.program(("make_folder", inside("d")))
        number = number_at(host, "d")
        for _ in range(depth):
            host.program(("open", ("folder", ("d",)) if number == 1 else (number - 1, ("d",))))
            host.program(("make_folder", (number, ("d",))))
            number += 1
        self.assertEqual(len(host.tree()), depth + 1)
        self.assertEqual(host.ask(("take", ("d",), 0)), ("done",))
        self.assertEqual(len(host.shelf()[0][1]), depth + 1)


if __name__ == "__main__":
    unittest.main()
