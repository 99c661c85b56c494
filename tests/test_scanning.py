"""Points 55 to 59: what a scan asks, and how it takes answers in."""

import unittest

from foldkeep.hosts import Host
from foldkeep.names import Rule
from foldkeep.scanning import Found, Scan, answer_to_scan, scan_copy, scan_question
from keeps import a_file, a_folder, a_state, found_file, mark
from looks import make, make_folder

REFUSED = ("refused",)


def seen(scan):
    """What was found, as tuples."""
    return [(item.path, item.thing, item.kind, item.count, item.cuts, item.mark) for item in scan.found]


def all_of(scan):
    told = {name: list(value) if isinstance(value, list) else value for name, value in vars(scan).items()}
    told["found"] = seen(scan)
    return told


def file_row(name, thing=1, count=0, cuts=0):
    return (name, thing, "file", count, cuts)


def folder_row(name, thing=1):
    return (name, thing, "folder", 0, 0)


class Course(unittest.TestCase):
    """Plays a scan: pairs of the question that is expected and the answer to it."""

    def play(self, state, *pairs, scan=None):
        scan = scan or Scan([])
        for question, answer in pairs:
            self.assertNotEqual(scan.phase, "end")
            self.assertEqual(scan_question(scan), question)
            self.assertIs(answer_to_scan(state, scan, answer), True)
        return scan

    def names(self, state, *rows, second=4):
        """A scan of a root with these rows, up to the second total."""
        return self.play(
            state, (("total",), ("total", 4)), (("names", ()), ("names", list(rows))), (("total",), ("total", second)))


class New(unittest.TestCase):
    def test_it_has_asked_nothing(self):
        scan = Scan([(1, 0), (2, 1)])
        self.assertEqual(scan.heads, [(1, 0), (2, 1)])
        self.assertIs(scan.at_rest, False)
        self.assertEqual((scan.found, scan.taken, scan.have_read, scan.phase), ([], [], [], "total"))
        self.assertEqual(scan_question(scan), ("total",))

    def test_it_does_not_keep_the_list(self):
        heads = [(1, 0)]
        scan = Scan(heads)
        heads.append((2, 0))
        self.assertEqual(scan.heads, [(1, 0)])

    def test_found(self):
        item = Found(("a",), 1, "file", 2, 3, mark("x"))
        self.assertEqual(
            (item.path, item.thing, item.kind, item.count, item.cuts, item.mark), (("a",), 1, "file", 2, 3, mark("x")))


class Questions(Course):
    def test_each_question_in_its_order(self):
        state = a_state(placed=[a_file("gone", thing=9, count=2, ids=((1, 1),))])
        scan = self.play(
            state,
            (("total",), ("total", 7)),
            (("names", ()), ("names", [file_row("a", 1), folder_row("d", 2), folder_row("e", 3)])),
            (("names", ("d",)), ("names", [folder_row("f", 4), file_row("b", 5)])),
            (("names", ("e",)), ("names", [file_row("c", 6)])),
            (("names", ("d", "f")), ("names", [])),
            (("total",), ("total", 7)),
            (("read", ("a",)), ("text", 1, 0, 0, "x", False)),
            (("read", ("d", "b")), ("text", 5, 0, 0, "y", True)),
            (("read", ("e", "c")), ("text", 6, 0, 0, "z", False)),
            (("was_read", 9, 2), ("was_read", True)),
        )
        self.assertEqual(scan.phase, "end")
        self.assertEqual(seen(scan), [
            (("a",), 1, "file", 0, 0, mark("x")), (("d",), 2, "folder", 0, 0, None), (("e",), 3, "folder", 0, 0, None),
            (("d", "f"), 4, "folder", 0, 0, None), (("d", "b"), 5, "file", 0, 0, mark("y", True)),
            (("e", "c"), 6, "file", 0, 0, mark("z")),
        ])
        self.assertIs(scan.at_rest, True)
        self.assertEqual(scan.have_read, [(9, 2)])

    def test_the_phases(self):
        state = a_state(placed=[a_file("gone", thing=9, ids=((1, 1),))])
        scan = Scan([])
        phases = []
        for answer in [("total", 1), ("names", [file_row("a")]), ("total", 1), ("text", 1, 0, 0, "", False), ("was_read", False)]:
            phases.append((scan.phase, scan.at_rest))
            answer_to_scan(state, scan, answer)
        self.assertEqual(phases, [("total", False), ("names", True), ("again", True), ("read", True), ("ask", True)])
        self.assertEqual((scan.phase, scan.at_rest), ("end", True))

    def test_phases_in_which_there_is_nothing_to_ask_are_left_out(self):
        self.assertEqual(self.names(a_state()).phase, "end")
        asking = self.names(a_state(placed=[a_file("gone", ids=((1, 1),))]))
        self.assertEqual((asking.phase, scan_question(asking)), ("ask", ("was_read", 1, 0)))
        reading = self.names(a_state(), file_row("a"))
        self.assertEqual((reading.phase, scan_question(reading)), ("read", ("read", ("a",))))

    def test_a_first_total_that_is_refused(self):
        state = a_state()
        for answer in [REFUSED, ("names", []), ("was_read", None), ("text", 1, 0, 0, "", False), ("done",)]:
            scan = Scan([(1, 0)])
            before = all_of(scan)
            self.assertIs(answer_to_scan(state, scan, answer), False)
            self.assertEqual(all_of(scan), before)

    def test_a_host_is_scanned(self):
        host = Host(Rule())
        make_folder(host, "d")
        make(host, "d", "x", text="hi", runs=True)
        state = a_state()
        scan = Scan([])
        asked = []
        while scan.phase != "end":
            asked.append(scan_question(scan))
            answer_to_scan(state, scan, host.ask(asked[-1]))
        self.assertEqual(asked, [("total",), ("names", ()), ("names", ("d",)), ("total",), ("read", ("d", "x"))])
        self.assertEqual(seen(scan), [(("d",), 1, "folder", 0, 0, None), (("d", "x"), 2, "file", 0, 0, mark("hi", True))])


class Rest(Course):
    def rest(self, first, second, names=("names", [])):
        scan = self.play(a_state(), (("total",), first), (("names", ()), names), (("total",), second))
        return scan.at_rest

    def test_equal_totals(self):
        self.assertIs(self.rest(("total", 3), ("total", 3)), True)
        self.assertIs(self.rest(("total", 0), ("total", 0)), True)

    def test_totals_that_differ(self):
        self.assertIs(self.rest(("total", 3), ("total", 4)), False)
        self.assertIs(self.rest(("total", 0), ("total", None)), False)

    def test_totals_that_are_not_told(self):
        self.assertIs(self.rest(("total", None), ("total", None)), False)
        self.assertIs(self.rest(("total", None), ("total", 0)), False)

    def test_a_second_total_that_is_refused(self):
        for answer in [REFUSED, ("names", []), ("was_read", 3)]:
            self.assertIs(self.rest(("total", 3), answer), False)

    def test_names_that_are_refused(self):
        for answer in [REFUSED, ("total", 3), ("shelf", [])]:
            self.assertIs(self.rest(("total", 3), ("total", 3), answer), False)

    def test_one_refused_folder_is_enough_and_the_scan_continues(self):
        scan = Scan([])
        state = a_state()
        self.play(
            state,
            (("total",), ("total", 3)),
            (("names", ()), ("names", [folder_row("d", 1), folder_row("e", 2)])),
            (("names", ("d",)), REFUSED),
            scan=scan)
        self.assertIs(scan.at_rest, False)
        self.play(
            state,
            (("names", ("e",)), ("names", [file_row("a", 3)])),
            (("total",), ("total", 3)),
            (("read", ("e", "a")), ("text", 3, 0, 0, "", False)),
            scan=scan)
        self.assertEqual((scan.phase, scan.at_rest), ("end", False))
        self.assertEqual([item[0] for item in seen(scan)], [("d",), ("e",), ("e", "a")])


class Rows(Course):
    def test_other_things_are_taken(self):
        scan = self.names(a_state(placed=[a_file("link")]), ("link", 4, "other", 0, 0), ("dev", 5, "other", 0, 0))
        self.assertEqual(scan.taken, [("link",), ("dev",)])
        self.assertEqual(scan.found, [])

    def test_ignored_names_are_taken_if_nothing_is_placed_there(self):
        state = a_state(ignores=["*.tmp", ".git"], placed=[a_file("old.tmp", thing=7)])
        scan = self.names(
            state, folder_row(".git", 1), file_row("new.tmp", 2), file_row("old.tmp", 3), file_row("tmp", 4))
        self.assertEqual(scan.taken, [(".git",), ("new.tmp",)])
        self.assertEqual([item[0] for item in seen(scan)], [("old.tmp",), ("tmp",)])

    def test_an_ignored_folder_is_looked_into_only_if_something_is_placed_there(self):
        rows = [folder_row("x.tmp", 1), folder_row("y.tmp", 2)]
        state = a_state(ignores=("*.tmp",), placed=[a_folder("y.tmp", thing=2)])
        scan = self.play(
            state, (("total",), ("total", 1)), (("names", ()), ("names", rows)),
            (("names", ("y.tmp",)), ("names", [file_row("z.tmp", 3), file_row("a", 4)])), (("total",), ("total", 1)))
        self.assertEqual(scan.taken, [("x.tmp",), ("y.tmp", "z.tmp")])
        self.assertEqual([item[0] for item in seen(scan)], [("y.tmp",), ("y.tmp", "a")])

    def test_an_other_thing_is_taken_even_if_its_name_is_ignored_and_placed(self):
        scan = self.names(a_state(ignores=("*",), placed=[a_file("a")]), ("a", 1, "other", 0, 0))
        self.assertEqual((scan.taken, scan.found), ([("a",)], []))

    def test_an_ignored_name_counts_in_each_folder_by_itself(self):
        scan = self.play(
            a_state(ignores=("a",)), (("total",), ("total", 1)), (("names", ()), ("names", [folder_row("d", 1)])),
            (("names", ("d",)), ("names", [file_row("a", 2)])), (("total",), ("total", 1)))
        self.assertEqual(scan.taken, [("d", "a")])

    def test_a_file_has_the_mark_of_the_same_file_with_the_same_count(self):
        state = a_state(placed=[a_file("a", thing=5, count=2, text="old", cuts=1, ids=((1, 0),))], had=[(("a",), ((1, 0),))])
        scan = self.names(state, file_row("a", 5, 2, 7))
        self.assertEqual(seen(scan), [(("a",), 5, "file", 2, 7, mark("old"))])
        self.assertEqual(scan.phase, "end")

    def test_a_file_has_no_mark_yet_otherwise(self):
        for entry in [a_file("a", thing=6, count=2), a_file("a", thing=5, count=1), a_folder("a", thing=5, count=2),
                      a_file("b", thing=5, count=2)]:
            scan = self.names(a_state(placed=[entry]), file_row("a", 5, 2))
            self.assertEqual(seen(scan), [(("a",), 5, "file", 2, 0, None)])
            self.assertEqual(scan_question(scan), ("read", ("a",)))

    def test_only_the_first_entry_at_the_path_gives_a_mark(self):
        state = a_state(placed=[a_folder("a", thing=1), a_file("a", thing=5, text="old")])
        self.assertEqual(seen(self.names(state, file_row("a", 5))), [(("a",), 5, "file", 0, 0, None)])
        state = a_state(placed=[a_file("a", thing=4), a_file("a", thing=5, text="old")])
        self.assertEqual(seen(self.names(state, file_row("a", 5))), [(("a",), 5, "file", 0, 0, None)])

    def test_a_folder_has_no_mark(self):
        state = a_state(placed=[a_file("a", thing=5)])
        scan = self.play(state, (("total",), ("total", 1)), (("names", ()), ("names", [folder_row("a", 5)])))
        self.assertEqual(seen(scan), [(("a",), 5, "folder", 0, 0, None)])


class Reading(Course):
    def test_a_text_gives_thing_count_cuts_and_mark(self):
        scan = self.names(a_state(), file_row("a", 1, 2, 3))
        self.play(a_state(), (("read", ("a",)), ("text", 7, 8, 9, "new", True)), scan=scan)
        self.assertEqual(seen(scan), [(("a",), 7, "file", 8, 9, mark("new", True))])

    def test_a_file_that_cannot_be_read_has_no_mark(self):
        for answer in [REFUSED, ("names", []), ("total", 3), ("was_read", True)]:
            scan = self.names(a_state(), file_row("a", 1), file_row("b", 2))
            self.play(
                a_state(), (("read", ("a",)), answer), (("read", ("b",)), ("text", 2, 0, 0, "x", False)), scan=scan)
            self.assertEqual(seen(scan), [(("a",), 1, "file", 0, 0, None), (("b",), 2, "file", 0, 0, mark("x"))])
            self.assertEqual(scan.phase, "end")

    def test_files_with_a_mark_are_not_read(self):
        state = a_state(placed=[a_file("a", thing=1, text="x")])
        scan = self.names(state, file_row("a", 1), file_row("b", 2))
        self.assertEqual(scan_question(scan), ("read", ("b",)))
        scan = self.names(state, file_row("b", 2), file_row("a", 1))
        self.play(state, (("read", ("b",)), REFUSED), scan=scan)
        self.assertEqual(scan.phase, "end")

    def test_a_path_that_was_found_twice(self):
        scan = self.names(a_state(), file_row("a", 1), file_row("b", 2), file_row("a", 3, 1))
        self.play(a_state(), (("read", ("a",)), ("text", 3, 1, 0, "x", False)), scan=scan)
        self.assertEqual(seen(scan), [
            (("a",), 3, "file", 1, 0, mark("x")), (("b",), 2, "file", 0, 0, None), (("a",), 3, "file", 1, 0, mark("x"))])
        self.play(a_state(), (("read", ("b",)), ("text", 2, 0, 0, "y", False)), scan=scan)
        self.assertEqual(scan.phase, "end")

    def test_a_path_that_was_found_twice_and_could_not_be_read_at_first(self):
        scan = self.names(a_state(), file_row("a", 1), file_row("a", 3))
        self.play(
            a_state(), (("read", ("a",)), REFUSED), (("read", ("a",)), ("text", 3, 0, 0, "x", False)), scan=scan)
        self.assertEqual(seen(scan), [(("a",), 3, "file", 0, 0, mark("x"))] * 2)

    def test_a_text_changes_nothing_of_a_folder_at_the_path(self):
        scan = Scan([])
        self.play(
            a_state(), (("total",), ("total", 1)), (("names", ()), ("names", [folder_row("a", 1), file_row("a", 2)])),
            (("names", ("a",)), REFUSED), (("total",), ("total", 1)),
            (("read", ("a",)), ("text", 3, 0, 0, "x", False)), scan=scan)
        self.assertEqual(seen(scan), [(("a",), 1, "folder", 0, 0, None), (("a",), 3, "file", 0, 0, mark("x"))])

    def test_a_text_gives_a_mark_also_to_files_that_have_one(self):
        state = a_state(placed=[a_file("a", thing=1, text="old")])
        scan = self.names(state, file_row("a", 1), file_row("a", 2))
        self.play(state, (("read", ("a",)), ("text", 2, 4, 0, "new", False)), scan=scan)
        self.assertEqual(seen(scan), [(("a",), 2, "file", 4, 0, mark("new"))] * 2)


class Asking(Course):
    def asked(self, state, *rows):
        """What a scan asks after it has read; the texts that it reads have thing 50 and count 5."""
        scan = self.names(state, *rows)
        while scan.phase == "read":
            answer_to_scan(state, scan, ("text", 50, 5, 0, "x", False))
        asked = []
        while scan.phase == "ask":
            asked.append(scan_question(scan))
            answer_to_scan(state, scan, ("was_read", False))
        self.assertEqual(scan.have_read, [])
        return asked

    def test_a_placed_file_that_was_not_found(self):
        entry = a_file("a", thing=3, count=4, ids=((1, 1),))
        self.assertEqual(self.asked(a_state(placed=[entry])), [("was_read", 3, 4)])

    def test_none_for_a_file_that_stands_for_what_programs_have_had(self):
        entry = a_file("a", thing=3, ids=((1, 1), (2, 1)))
        self.assertEqual(self.asked(a_state(placed=[entry], had=[(("a",), ((1, 1), (2, 1)))])), [])
        self.assertEqual(self.asked(a_state(placed=[entry], had=[(("a",), ((2, 1), (1, 1)))])), [("was_read", 3, 0)])
        self.assertEqual(self.asked(a_state(placed=[entry], had=[(("a",), ((1, 1),))])), [("was_read", 3, 0)])
        self.assertEqual(self.asked(a_state(placed=[entry], had=[(("b",), ((1, 1), (2, 1)))])), [("was_read", 3, 0)])

    def test_a_file_without_heads_where_programs_had_nothing(self):
        self.assertEqual(self.asked(a_state(placed=[a_file("a", thing=3)])), [])
        self.assertEqual(self.asked(a_state(placed=[a_file("a", thing=3)], had=[(("a",), ((1, 1),))])), [("was_read", 3, 0)])

    def test_the_thing_and_the_count_that_were_found_by_now(self):
        entry = a_file("a", thing=50, count=5, ids=((1, 1),))
        self.assertEqual(self.asked(a_state(placed=[entry]), file_row("a", 50, 5)), [])
        self.assertEqual(self.asked(a_state(placed=[entry]), file_row("a", 1, 1)), [])
        other = a_file("a", thing=50, count=4, ids=((1, 1),))
        self.assertEqual(self.asked(a_state(placed=[other]), file_row("a", 50, 3)), [("was_read", 50, 4)])
        other = a_file("a", thing=49, count=5, ids=((1, 1),))
        self.assertEqual(self.asked(a_state(placed=[other]), file_row("a", 50, 3)), [("was_read", 49, 5)])

    def test_the_first_file_that_was_found_counts(self):
        state = a_state(placed=[a_file("a", thing=3, ids=((1, 1),))])
        scan = Scan([])
        scan.phase = "again"
        scan.found = [found_file("a", thing=4, text="x"), found_file("a", thing=3, text="x")]
        answer_to_scan(state, scan, ("total", 1))
        self.assertEqual((scan.phase, scan_question(scan)), ("ask", ("was_read", 3, 0)))
        scan.phase = "again"
        scan.found = scan.found[::-1]
        answer_to_scan(state, scan, ("total", 1))
        self.assertEqual(scan.phase, "end")

    def test_a_file_that_was_found_at_another_path_does_not_count(self):
        entry = a_file("b", thing=50, count=5, ids=((1, 1),))
        self.assertEqual(self.asked(a_state(placed=[entry]), file_row("a", 50, 5)), [("was_read", 50, 5)])

    def test_a_folder_at_the_path_is_no_file(self):
        state = a_state(placed=[a_file("a", thing=3, ids=((1, 1),))])
        scan = self.play(
            state, (("total",), ("total", 1)), (("names", ()), ("names", [folder_row("a", 3)])),
            (("names", ("a",)), ("names", [])), (("total",), ("total", 1)))
        self.assertEqual(scan_question(scan), ("was_read", 3, 0))

    def test_folders_are_not_asked_for(self):
        self.assertEqual(self.asked(a_state(placed=[a_folder("d", thing=3, ids=((1, 1),))])), [])

    def test_each_placed_file_in_order(self):
        placed = [a_file("b", thing=2, ids=((1, 1),)), a_folder("d"), a_file("a", thing=1, count=1, ids=((2, 1),)),
                  a_file("c", thing=2, ids=((3, 1),))]
        self.assertEqual(self.asked(a_state(placed=placed)), [("was_read", 2, 0), ("was_read", 1, 1), ("was_read", 2, 0)])

    def test_what_programs_have_read(self):
        placed = [a_file("a", thing=1, ids=((1, 1),)), a_file("b", thing=2, count=3, ids=((2, 1),)),
                  a_file("c", thing=3, ids=((3, 1),))]
        scan = self.names(a_state(placed=placed))
        self.play(
            a_state(), (("was_read", 1, 0), ("was_read", True)), (("was_read", 2, 3), ("was_read", None)),
            (("was_read", 3, 0), ("was_read", False)), scan=scan)
        self.assertEqual(scan.phase, "end")
        self.assertEqual(scan.have_read, [(1, 0), (2, 3)])

    def test_an_answer_to_another_question_leaves_it_open(self):
        scan = self.names(a_state(placed=[a_file("a", thing=1, ids=((1, 1),)), a_file("b", thing=2, ids=((2, 1),))]))
        self.play(
            a_state(), (("was_read", 1, 0), REFUSED), (("was_read", 1, 0), ("total", 3)),
            (("was_read", 1, 0), ("names", [])), (("was_read", 1, 0), ("was_read", False)),
            (("was_read", 2, 0), REFUSED), (("was_read", 2, 0), ("was_read", True)), scan=scan)
        self.assertEqual(scan.phase, "end")
        self.assertEqual(scan.have_read, [(2, 0)])


class Copies(Course):
    ANSWERS = [
        ("total", 3), ("names", [folder_row("d", 1), file_row("a", 2), ("l", 8, "other", 0, 0)]),
        ("names", [file_row("b", 3)]), ("total", 3), ("text", 2, 0, 0, "x", False), ("text", 3, 0, 0, "y", False),
        ("was_read", True), ("was_read", False),
    ]

    def state(self):
        return a_state(placed=[a_file("p", thing=5, ids=((1, 1),)), a_file("q", thing=6, ids=((2, 1),))])

    def test_a_copy_goes_on_alike_and_shares_nothing(self):
        state = self.state()
        for many in range(len(self.ANSWERS)):
            scan = Scan([(1, 0)])
            for answer in self.ANSWERS[:many]:
                answer_to_scan(state, scan, answer)
            copy = scan_copy(scan)
            before = all_of(scan)
            self.assertEqual(all_of(copy), before)
            asked = []
            for answer in self.ANSWERS[many:]:
                asked.append(scan_question(copy))
                answer_to_scan(state, copy, answer)
            copy.heads.append((9, 9))
            for item in copy.found:
                item.mark = item.path = None
            self.assertEqual(all_of(scan), before)
            again = []
            for answer in self.ANSWERS[many:]:
                again.append(scan_question(scan))
                answer_to_scan(state, scan, answer)
            self.assertEqual(again, asked)
            self.assertEqual((scan.phase, copy.phase), ("end", "end"))
            self.assertEqual(scan.have_read, copy.have_read)


if __name__ == "__main__":
    unittest.main()
