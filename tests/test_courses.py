"""Points 74 to 95 together: changes on a host on which programs work, whatever becomes of what was asked."""

import unittest

from foldkeep.changes import ask_for, next_change
from foldkeep.expected import lacking, see_to_coming, source
from foldkeep.hosts import Host
from foldkeep.looking import look
from foldkeep.marks import mark_of
from foldkeep.names import Rule
from foldkeep.news import hear_news
from foldkeep.otherwise import read_found
from foldkeep.state import KeeperState, Shelved, placed_row
from keeps import a_file, mark, run_scan
from looks import beyond, inside, make, make_folder


class Course(unittest.TestCase):
    """Device 0 with its host; the edits of device 1 are made by hand, and their texts laid on the shelf."""

    RULE = Rule()

    def setUp(self):
        self.host = Host(self.RULE)
        self.state = KeeperState(0, [0, 1], self.RULE, ())

    def do(self, *deeds):
        for deed in deeds:
            self.host.program(deed)

    def scan(self):
        run_scan(self.host, self.state)
        self.look()

    def look(self):
        look(self.state, self.host.ask(("shelf",))[1])

    def other(self, make_edit):
        """Device 1 knows all that device 0 knows, makes an edit, and tells device 0 of it."""
        there = self.state.know.copy_of()
        edit = make_edit(there)
        clocks = [(device, there.clock if device == 1 else clock) for device, clock in there.knows]
        news = ("news", there.clock, (), 0, (edit,), tuple(clocks), tuple(self.state.know.knows))
        self.assertTrue(hear_news(self.state.know, 0, news))
        return edit[1]

    def write(self, path, text, replaces=(), line=None):
        """Device 1 writes a file in the root, and its text comes to the shelf."""
        head = self.other(lambda know: know.write(1, (None, path, path), mark_of(text, False), line, replaces))
        self.lay(head, text)
        return head

    def lay(self, head, text):
        """Lays the text of a head on the shelf, as a file that came in whole."""
        place = self.state.next_place
        self.state.next_place += 1
        self.assertEqual(self.host.ask(("stage", place, text, False)), ("done",))
        thing = [row[1] for row in self.host.ask(("shelf",))[1] if row[0] == place][0]
        was = a_file(thing=thing, text=text, ids=(head,), seen=False)
        self.state.shelf.append(Shelved(place, thing, 0, 0, len(text), ("kept", was)))

    def work(self, ahead=None, answer=None):
        """Makes changes until there are none; `ahead` is called with each one, `answer` may stand in for the host."""
        done = []
        while len(done) < 60:
            found = [entry for entry in self.state.shelf if entry.purpose[0] == "found"]
            if found:
                self.read(found[0])
                continue
            operation = next_change(self.state)
            if operation is None:
                return done
            ask_for(self.state, operation)
            if ahead is not None:
                ahead(operation, len(done))
            done.append(operation)
            if answer is None or answer(len(done)):
                self.host.ask(operation)
            self.look()
        self.fail("the changes do not end")

    def read(self, entry):
        was = entry.purpose[1]
        flag = self.host.ask(("was_read", was.thing, was.count))[1]
        answer = self.host.ask(("read_shelf", entry.place))
        self.assertEqual(answer[0], "text")
        read_found(self.state, entry.place, flag is not False, answer)

    def tree(self):
        return {"/".join(row[0]): row[5] if row[1] == "file" else None for row in self.host.tree()}

    def kept(self):
        """The texts that lie on the shelf for good, in order."""
        marks = [entry.purpose[1].content for entry in self.state.shelf if entry.purpose[0] == "kept"]
        texts = [rows[0][5] for _, rows in self.host.shelf()]
        self.assertEqual(sorted(mark(text) for text in texts), sorted(marks))
        return texts


class Files(Course):
    def test_a_new_file_comes(self):
        self.write(("a",), "one")
        self.assertEqual([operation[0] for operation in self.work()], ["give"])
        self.assertEqual((self.tree(), self.kept()), ({"a": "one"}, []))
        self.scan()
        self.assertEqual(self.state.know.rest[1:], [])
        self.assertEqual(self.work(), [])

    def test_an_older_text_is_replaced_and_kept(self):
        make(self.host, "a", text="one")
        self.scan()
        self.write(("a",), "two", ((1, 0),), (1, 0))
        done = self.work()
        self.assertEqual([operation[0] for operation in done], [self.exchange()[0]] + self.exchange()[1:])
        self.assertEqual((self.tree(), self.kept()), ({"a": "two"}, ["one"]))
        self.assertEqual([placed_row(item)[:6] for item in self.state.placed], [(("a",), ("a",), 2, 0, 0, mark("two"))])
        self.scan()
        self.assertEqual([edit[0] for edit in self.state.know.rest], ["write", "write"])
        self.assertEqual(self.work(), [])

    def exchange(self):
        return ["swap"] if self.RULE.swaps else ["take", "give"]

    def test_a_file_goes(self):
        make(self.host, "a", text="one")
        self.scan()
        self.other(lambda know: know.drop(1, ((1, 0),)))
        self.assertEqual(self.work(), [("take", ("a",), 0)])
        self.assertEqual((self.tree(), self.kept()), ({}, ["one"]))

    def test_a_file_is_moved_and_its_text_is_used(self):
        make(self.host, "a", text="one")
        self.scan()
        self.other(lambda know: know.move(1, (((1, 0), (1, 0), (None, ("b",), ("b",))),)))
        self.assertEqual(lacking(self.state), [])
        self.assertEqual(self.work(), [("take", ("a",), 0), ("give", 0, ("b",))])
        self.assertEqual((self.tree(), self.kept()), ({"b": "one"}, []))

    def test_a_program_writes_before_it_is_taken(self):
        make(self.host, "a", text="one")
        self.scan()
        self.write(("a",), "two", ((1, 0),), (1, 0))

        def ahead(_, number):
            if number == 0:
                self.do(("write", inside("a"), 3, "!"))
        self.work(ahead)
        # Both texts are heads now, and are shown next to each other.
        self.assertEqual(self.tree(), {"a": "two", "a (3-0)": "one!"})
        self.assertEqual(self.kept(), [])
        self.scan()
        self.assertEqual(len(self.state.know.rest), 3)

    def test_another_placed_file_comes_to_the_path_before_it_is_taken(self):
        make(self.host, "a", text="one")
        make(self.host, "b", text="bee")
        self.scan()
        self.other(lambda know: know.drop(1, ((1, 0),)))

        def ahead(_, number):
            if number == 0:
                self.do(("rename", inside("b"), inside("a")))
        done = self.work(ahead)
        # It was placed elsewhere, so it goes back and the next scan tells where it is.
        self.assertEqual(done, [("take", ("a",), 0), ("give", 0, ("a",))])
        self.assertEqual((self.tree(), self.kept()), ({"a": "bee"}, []))
        self.scan()
        self.assertEqual(self.work(), [])
        self.assertEqual(self.tree(), {"a": "bee"})

    def test_a_folder_comes_to_the_path_before_it_is_taken(self):
        make(self.host, "a", text="one")
        self.scan()
        self.other(lambda know: know.drop(1, ((1, 0),)))

        def ahead(_, number):
            if number == 0:
                self.do(("remove", inside("a")), ("make_folder", inside("a")), ("make", inside("a", "x"), "in", False))
        self.assertEqual(self.work(ahead), [("take", ("a",), 0), ("give", 0, ("a",))])
        self.assertEqual(self.tree(), {"a": None, "a/x": "in"})
        self.scan()
        self.assertEqual(self.work(), [])
        self.assertEqual(self.tree(), {"a": None, "a/x": "in"})

    def test_what_goes_back_finds_its_path_occupied(self):
        make(self.host, "a", text="one")
        make_folder(self.host, "b")
        self.scan()
        self.other(lambda know: know.drop(1, ((2, 0),)))

        def ahead(operation, number):
            if number == 0:
                self.do(("rename", inside("a"), beyond("a")), ("rename", inside("b"), inside("a")))
            if operation[0] == "give" and operation[2] == ("a",):
                self.do(("make", inside("a"), "new", False))
        done = self.work(ahead)
        self.assertEqual(done, [("take", ("a",), 0), ("give", 0, ("a",)), ("give", 0, ("a 1",))])
        self.assertEqual(self.tree(), {"a": "new", "a 1": None})


class WithoutSwaps(Files):
    RULE = Rule(swaps=False, cuts=False, reads=False)


class Folders(Course):
    def test_a_folder_is_renamed_with_what_stands_in_it(self):
        make_folder(self.host, "d")
        make(self.host, "d", "a", text="one")
        make_folder(self.host, "d", "e")
        self.scan()
        self.other(lambda know: know.move(1, (((1, 0), (1, 0), (None, ("z",), ("z",))),)))
        self.assertEqual(self.work(), [
            ("take", ("d", "a"), 0), ("remove_folder", ("d", "e")), ("remove_folder", ("d",)), ("make_folder", ("z",)),
            ("make_folder", ("z", "e")), ("give", 0, ("z", "a")),
        ])
        self.assertEqual((self.tree(), self.kept()), ({"z": None, "z/a": "one", "z/e": None}, []))
        self.scan()
        self.assertEqual(self.work(), [])
        self.assertEqual(len(self.state.know.rest), 4)

    def test_a_folder_in_which_a_program_makes_a_file_stays(self):
        make_folder(self.host, "d")
        self.scan()
        self.other(lambda know: know.drop(1, ((1, 0),)))

        def ahead(_, number):
            if number == 0:
                self.do(("make", inside("d", "x"), "new", False))
        self.assertEqual(self.work(ahead), [("remove_folder", ("d",))])
        self.assertEqual(self.state.late, [("d",)])
        self.scan()
        self.assertEqual(self.work(), [])
        self.assertEqual(self.tree(), {"d": None, "d/x": "new"})
        self.assertEqual([line[3] for line in self.state.know.lines()], [("d", "x")])


class Refusals(Course):
    """Each change in its turn is refused, and the next scan lets the keeper try again."""

    def build(self):
        self.setUp()
        make_folder(self.host, "d")
        for name in ["a", "b"]:
            make(self.host, "d", name, text=name)
        make(self.host, "c", text="see")
        self.scan()
        self.other(lambda know: know.move(1, (((1, 0), (1, 0), (None, ("z",), ("z",))),)))
        self.write(("c",), "new", ((2, 0),), (2, 0))

    def test_each_change(self):
        expected = {"z": None, "z/a": "a", "z/b": "b", "c": "new"}
        self.build()
        changes = self.work()
        self.assertEqual(self.tree(), expected)
        for number in range(1, len(changes) + 1):
            with self.subTest(change=changes[number - 1]):
                self.build()
                places = [operation[2] for operation in self.work(None, lambda many: many != number) if operation[0] == "take"]
                for _ in range(3):
                    self.scan()
                    places.extend([operation[2] for operation in self.work() if operation[0] == "take"])
                self.assertEqual(self.tree(), expected)
                self.assertEqual(self.kept(), ["see"])
                self.assertEqual(len(places), len(set(places)))
                self.assertEqual(self.work(), [])


class ToCome(Course):
    def test_a_text_that_is_here_under_another_head_is_asked_for_here(self):
        make(self.host, "a", text="one")
        self.scan()
        head = self.other(lambda know: know.write(1, (None, ("b",), ("b",)), mark("one"), None, ()))
        self.assertEqual(lacking(self.state), [(head, mark("one"))])
        see_to_coming(self.state)
        self.assertEqual(self.state.requests, [(0, head, 0)])
        self.assertEqual(source(self.state, head), (("read", ("a",)), 1, 0))
        self.assertEqual(self.work(), [])

    def test_a_text_that_is_nowhere_here_is_expected(self):
        head = self.other(lambda know: know.write(1, (None, ("b",), ("b",)), mark("two"), None, ()))
        see_to_coming(self.state)
        self.assertEqual(([entry.purpose[1] for entry in self.state.shelf], self.state.requests), ([head], []))
        self.assertEqual(self.work(), [])
        # It is not wanted any more.
        self.other(lambda know: know.drop(1, (head,)))
        see_to_coming(self.state)
        self.assertEqual(self.state.shelf, [])


if __name__ == "__main__":
    unittest.main()
