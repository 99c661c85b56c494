"""Points 74 to 80: what is wanted, what suits and serves, where texts lie, which paths wait, and places."""

import unittest

from foldkeep.changes import ask_for, next_change
from foldkeep.expected import expect
from foldkeep.hosts import Host
from foldkeep.looking import look
from foldkeep.names import Rule
from foldkeep.wanted import serves, suits, text_place, waits, wanted, wanted_at
from keeps import a_file, a_folder, a_line, a_state, coming, found_there, going_back, kept, looks_of, mark
from looks import make


def paths(entries):
    return [entry[0] for entry in entries]


class Wanted(unittest.TestCase):
    LINES = (
        a_line((1, 1), "d"), a_line((2, 1), "a", text="x", inside=(1, 1)), a_line((3, 1), "b", text="y", head=(5, 1)),
    )

    def test_nothing(self):
        self.assertEqual(wanted(a_state()), [])

    def test_all_that_is_shown(self):
        self.assertEqual(wanted(a_state(self.LINES)), [
            (("d",), ("d",), None, ((1, 1),), (1, 1)),
            (("d", "a"), ("d", "a"), mark("x"), ((2, 1),), (2, 1)),
            (("b",), ("b",), mark("y"), ((5, 1),), (3, 1)),
        ])

    def test_the_rule_and_the_taken_paths_count(self):
        state = a_state(self.LINES, rule=Rule(unfit=("d",)), taken=[("b",)])
        self.assertEqual(paths(wanted(state)), [("d (1-1)",), ("d (1-1)", "a"), ("b (3-1)",)])

    def test_files_that_are_put_away(self):
        state = a_state(self.LINES, away=[((5, 1), 0, 1)])
        self.assertEqual(paths(wanted(state)), [("d",), ("d", "a")])
        state = a_state(self.LINES, away=[((5, 1), 0, 1), ((9, 9), 1, 1), ((2, 1), 2, 2)])
        self.assertEqual(paths(wanted(state)), [("d",)])

    def test_it_is_the_head_that_is_put_away_and_not_the_line(self):
        self.assertEqual(paths(wanted(a_state(self.LINES, away=[((3, 1), 0, 1)]))), [("d",), ("d", "a"), ("b",)])

    def test_a_folder_is_wanted_whatever_is_put_away(self):
        self.assertEqual(paths(wanted(a_state(self.LINES, away=[((1, 1), 0, 1)]))), [("d",), ("d", "a"), ("b",)])

    def test_one_of_several_heads_is_enough(self):
        lines = [a_line((1, 1), "a", text="x"), a_line((2, 1), "a", text="x"), a_line((3, 1), "a", text="y")]
        for head in [(1, 1), (2, 1)]:
            self.assertEqual(paths(wanted(a_state(lines, away=[(head, 0, 1)]))), [("a (3-1)",)])
        self.assertEqual(paths(wanted(a_state(lines, away=[((3, 1), 0, 1)]))), [("a",)])

    def test_heads_that_are_asked_for_or_fetched_do_not_count(self):
        state = a_state(self.LINES, asking=[((5, 1), 0, 1)], fetching=[(5, 1)], holding=[(1, 0, (2, 1), 0)])
        self.assertEqual(len(wanted(state)), 3)
        state = a_state(self.LINES, away=[((5, 1), 0, 1)], fetching=[(5, 1)])
        self.assertEqual(paths(wanted(state)), [("d",), ("d", "a")])

    def test_the_list_is_new_and_nothing_changes(self):
        state = a_state(self.LINES, away=[((5, 1), 0, 1)])
        before = looks_of(state)
        wanted(state).clear()
        self.assertEqual(len(wanted(state)), 2)
        self.assertEqual(looks_of(state), before)


class AtPaths(unittest.TestCase):
    def test_the_first_one_at_a_path(self):
        first = (("a",), ("a",), None, (), None)
        second = (("a",), ("a",), mark("x"), ((1, 1),), (1, 1))
        other = (("a", "a"), ("a", "a"), mark("x"), ((2, 1),), (2, 1))
        self.assertEqual(wanted_at([other, first, second], ("a",)), first)
        self.assertEqual(wanted_at([second, first], ("a",)), second)
        self.assertEqual(wanted_at([second, other], ("a", "a")), other)
        for path in [(), ("b",), ("A",), ("a", "b")]:
            self.assertIsNone(wanted_at([first, second, other], path))
        self.assertIsNone(wanted_at([], ("a",)))


class Suits(unittest.TestCase):
    ENTRIES = (
        (("a",), ("a",), None, ((1, 1),), (1, 1)), (("b",), ("b",), mark("x"), ((2, 1),), (2, 1)),
        (("b",), ("b",), mark("y"), ((3, 1),), (3, 1)),
    )

    def test_equal_path_and_content(self):
        for item in [a_folder("a"), a_file("b", text="x"), a_file("b", text="y")]:
            self.assertIs(suits(list(self.ENTRIES), item), True)

    def test_heads_lines_and_names_do_not_matter(self):
        item = a_file("b", text="x", ids=((9, 9),), line=(8, 8), names=("z",), thing=7, seen=False)
        self.assertIs(suits(list(self.ENTRIES), item), True)

    def test_equal_path_and_another_content(self):
        for item in [a_file("a", text="x"), a_folder("b"), a_file("b", text="z")]:
            self.assertIs(suits(list(self.ENTRIES), item), False)

    def test_equal_content_and_another_path(self):
        for item in [a_folder("c"), a_file("c", text="x"), a_file("a", "b", text="x"), a_file("b", "", text="x")]:
            self.assertIs(suits(list(self.ENTRIES), item), False)

    def test_nothing_suits_if_nothing_is_wanted(self):
        self.assertIs(suits([], a_file("a")), False)


class Serves(unittest.TestCase):
    """The lines have the heads (1, 1) and (5, 1)."""

    def serves(self, ids, own):
        state = a_state([a_line((1, 1), "a", text="x"), a_line((2, 1), "b", text="y", head=(5, 1))])
        return serves(state, ids, kept(0, a_file("a", ids=own)).purpose[1])

    def test_one_of_its_ids_is_among_the_heads(self):
        self.assertIs(self.serves(((1, 1),), ((1, 1),)), True)
        self.assertIs(self.serves(((1, 1), (7, 1)), ((5, 1), (7, 1))), True)
        self.assertIs(self.serves(((7, 1), (5, 1)), ((5, 1), (1, 1))), True)

    def test_none_of_its_ids_is_a_head_any_more(self):
        self.assertIs(self.serves(((1, 1),), ((2, 1), (4, 1))), True)
        self.assertIs(self.serves((), ((2, 1),)), True)

    def test_one_of_its_ids_is_another_head(self):
        self.assertIs(self.serves(((1, 1),), ((5, 1),)), False)
        self.assertIs(self.serves(((1, 1),), ((2, 1), (5, 1))), False)
        self.assertIs(self.serves((), ((5, 1),)), False)

    def test_without_ids(self):
        self.assertIs(self.serves(((1, 1),), ()), True)
        self.assertIs(self.serves((), ()), True)


class Places(unittest.TestCase):
    LINES = (a_line((1, 1), "a", text="x"), a_line((2, 1), "b", text="x", head=(5, 1)))

    def place(self, *shelf, text="x", ids=((1, 1),), **more):
        return text_place(a_state(self.LINES, shelf=shelf, **more), mark(text), ids)

    def test_nothing_lies_there(self):
        self.assertIsNone(self.place())

    def test_the_first_of_several_kept_entries(self):
        first = kept(7, a_file("z", text="x", ids=((1, 1),)))
        second = kept(3, a_file("z", text="x", ids=((1, 1),)))
        self.assertEqual(self.place(first, second), 7)
        self.assertEqual(self.place(second, first), 3)

    def test_place_0(self):
        self.assertEqual(self.place(kept(0, a_file("z", text="x"))), 0)

    def test_another_content(self):
        first = kept(7, a_file("z", text="y", ids=((1, 1),)))
        self.assertIsNone(self.place(first))
        self.assertEqual(self.place(first, text="y"), 7)
        self.assertIsNone(self.place(kept(7, a_folder("z", ids=((1, 1),)))))

    def test_it_must_serve_the_heads(self):
        other = kept(7, a_file("z", text="x", ids=((5, 1),)))
        self.assertIsNone(self.place(other))
        self.assertEqual(self.place(other, ids=((1, 1), (5, 1))), 7)
        self.assertEqual(self.place(other, kept(8, a_file("z", text="x", ids=((2, 1),)))), 8)

    def test_the_content_of_what_was_expected_counts_and_not_its_path(self):
        self.assertEqual(self.place(kept(2, a_file("d", "e", text="x", names=()), thing=9, length=5)), 2)

    def test_a_place_that_is_held_for_another_device(self):
        first = kept(7, a_file("z", text="x", ids=((1, 1),)))
        second = kept(3, a_file("z", text="x", ids=((1, 1),)))
        held = [(2, 4, (9, 9), 7)]
        self.assertIsNone(self.place(first, holding=held))
        self.assertEqual(self.place(first, second, holding=held), 3)
        self.assertIsNone(self.place(first, second, holding=[(1, 0, (1, 1), 3), *held]))
        self.assertEqual(self.place(first, holding=[(7, 7, (1, 1), 3)]), 7)

    def test_only_kept_entries(self):
        was = a_file("a", text="x", ids=((1, 1),))
        for entry in [coming(7, (1, 1), "x", thing=1, length=1), found_there(7, was), going_back(7, was)]:
            self.assertIsNone(self.place(entry))


class Late(unittest.TestCase):
    def test_a_path_that_is_late(self):
        state = a_state(late=[("a",), ("d", "b")])
        for path, late in [(("a",), True), (("d", "b"), True), (("d",), False), (("b",), False), (("a", "b"), False)]:
            self.assertIs(waits(state, path), late)
        self.assertIs(waits(a_state(), ("a",)), False)

    def test_a_path_that_is_late_twice(self):
        state = a_state(late=[("a",), ("b",), ("a",)])
        self.assertIs(waits(state, ("a",)), True)
        self.assertEqual(state.late, [("a",), ("b",), ("a",)])

    def test_an_empty_name_at_each_place_of_the_path(self):
        for path in [("",), ("", "a", "b"), ("a", "", "b"), ("a", "b", "")]:
            self.assertIs(waits(a_state(), path), True)
        self.assertIs(waits(a_state(), ("a", " ", "b")), False)
        self.assertIs(waits(a_state(), ()), False)


class NextPlaces(unittest.TestCase):
    """A place is never used twice, whatever becomes of it."""

    def test_a_take_uses_its_place_even_if_it_is_refused(self):
        state = a_state(placed=[a_file("a", thing=1, text="x")])
        for place in range(4):
            self.assertEqual(next_change(state), ("take", ("a",), place))
            ask_for(state, ("take", ("a",), place))
            self.assertEqual(state.next_place, place + 1)
            look(state, [])
            self.assertEqual((state.next_place, state.shelf), (place + 1, []))
            state.late = []

    def test_a_take_after_a_crash(self):
        state = a_state(placed=[a_file("a", thing=1)])
        ask_for(state, ("take", ("a",), 0))
        # The keeper has forgotten what it is about, and the change was done.
        look(state, [(0, 1, "file", 0, 0, 0)])
        self.assertEqual((state.next_place, [entry.place for entry in state.shelf]), (1, [0]))

    def test_an_entry_that_is_removed_gives_its_place_back_to_nobody(self):
        state = a_state([a_line((1, 1), "a", text="x")])
        expect(state, (1, 1), mark("x"))
        self.assertEqual((state.next_place, [entry.place for entry in state.shelf]), (1, [0]))
        state.shelf = []
        expect(state, (1, 1), mark("x"))
        self.assertEqual((state.next_place, [entry.place for entry in state.shelf]), (2, [1]))

    def test_on_a_host(self):
        host = Host(Rule())
        state = a_state()
        used = []
        for many in range(5):
            make(host, "a", text="x" * many)
            state.placed = [a_file("a", thing=many + 1, text="x" * many)]
            change = next_change(state)
            used.append(change[2])
            ask_for(state, change)
            self.assertEqual(host.ask(change), ("done",))
            look(state, host.ask(("shelf",))[1])
            # What was taken is dropped, but its place stays used.
            host.ask(("drop", change[2], 0))
            look(state, host.ask(("shelf",))[1])
            self.assertEqual(state.shelf, [])
        self.assertEqual(used, [0, 1, 2, 3, 4])


if __name__ == "__main__":
    unittest.main()
