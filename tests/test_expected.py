"""Points 91 to 95: where a text is, and what is to come."""

import unittest

from foldkeep.expected import (
    coming_entry, expect, is_whole, lacking, mark_of_head, see_to_coming, source,
)
from foldkeep.names import Rule
from foldkeep.state import shelved_row
from keeps import (
    a_file, a_folder, a_line, a_state, coming, found_there, going_back, kept, looks_of, mark, rows, shelf_rows,
)


class MarksOfHeads(unittest.TestCase):
    def test_the_content_of_the_line_with_this_head(self):
        state = a_state([a_line((1, 1), "a", text="x", head=(5, 1)), a_line((2, 1), "d")])
        self.assertEqual(mark_of_head(state, (5, 1)), mark("x"))
        self.assertIsNone(mark_of_head(state, (1, 1)))
        self.assertIsNone(mark_of_head(state, (2, 1)))
        self.assertIsNone(mark_of_head(state, (9, 9)))
        self.assertIsNone(mark_of_head(a_state(), (1, 1)))


class Sources(unittest.TestCase):
    """The head (5, 1) is the one of a line with the text x; the head (9, 9) is none of a line."""

    LINES = (a_line((1, 1), "a", text="x", head=(5, 1)), a_line((2, 1), "b", text="y"), a_line((3, 1), "d"))

    def source(self, head=(5, 1), **more):
        state = a_state(self.LINES, **more)
        before = looks_of(state)
        found = source(state, head)
        self.assertEqual(looks_of(state), before)
        return found

    def test_nowhere(self):
        self.assertIsNone(self.source())
        self.assertIsNone(self.source(placed=[a_file("a", text="z")], shelf=[kept(1, a_file("a", text="z"))]))

    def test_a_placed_file_with_the_head_among_its_ids(self):
        for ids in [((5, 1),), ((1, 1), (5, 1))]:
            item = a_file("d", "q", thing=7, count=8, text="z", ids=ids)
            self.assertEqual(self.source(placed=[item]), (("read", ("d", "q")), 7, 8))

    def test_a_placed_file_with_the_content_of_the_line(self):
        item = a_file("q", thing=7, count=8, text="x", ids=((2, 1),))
        self.assertEqual(self.source(placed=[item]), (("read", ("q",)), 7, 8))
        self.assertIsNone(self.source((2, 1), placed=[a_file("q", text="x")]))

    def test_neither(self):
        self.assertIsNone(self.source(placed=[a_file("a", text="y", ids=((1, 1), (2, 1)), line=(5, 1))]))

    def test_a_head_that_no_line_has(self):
        self.assertIsNone(self.source((9, 9), placed=[a_file("a", text="x", ids=((5, 1),))]))
        item = a_file("a", thing=7, text="x", ids=((9, 9),))
        self.assertEqual(self.source((9, 9), placed=[item]), (("read", ("a",)), 7, 0))
        # The line id of a line is no head.
        self.assertIsNone(self.source((1, 1), placed=[a_file("a", text="x")]))

    def test_a_folder_has_no_text(self):
        self.assertIsNone(self.source(placed=[a_folder("a", ids=((5, 1),))], shelf=[kept(1, a_folder("a", ids=((5, 1),)))]))
        self.assertIsNone(self.source((3, 1), placed=[a_folder("d", ids=((3, 1),))]))
        self.assertIsNone(self.source((9, 9), placed=[a_folder("d", ids=((9, 9),))]))

    def test_paths_that_wait(self):
        item = a_file("a", text="x")
        self.assertIsNone(self.source(placed=[item], late=[("b",), ("a",)]))
        for path in [("a", ""), ("", "a"), ("d", "", "a")]:
            self.assertIsNone(self.source(placed=[a_file(*path, text="x")]))
        other = a_file("c", thing=4, text="x")
        self.assertEqual(self.source(placed=[item, a_file("", text="x"), other], late=[("a",)]), (("read", ("c",)), 4, 0))

    def test_the_first_placed_file(self):
        first = a_file("q", thing=7, text="z", ids=((5, 1),))
        second = a_file("a", thing=8, text="x")
        self.assertEqual(self.source(placed=[a_file("p"), first, second]), (("read", ("q",)), 7, 0))
        self.assertEqual(self.source(placed=[second, first]), (("read", ("a",)), 8, 0))

    def test_a_kept_entry(self):
        for was in [a_file("q", thing=7, count=8, text="z", ids=((5, 1),)), a_file("q", thing=7, count=8, text="x")]:
            entry = kept(3, was, thing=10, count=11)
            self.assertEqual(self.source(shelf=[entry]), (("read_shelf", 3), 10, 11))

    def test_a_kept_entry_whose_path_waits(self):
        entries = [kept(3, a_file("a", "", text="x", thing=2)), kept(4, a_file("a", text="x"))]
        self.assertEqual(self.source(shelf=entries, late=[("a",)]), (("read_shelf", 3), 2, 0))

    def test_a_kept_entry_at_a_place_that_is_held(self):
        entry = kept(3, a_file("a", text="x"))
        self.assertEqual(self.source(shelf=[entry], holding=[(1, 0, (5, 1), 3)]), (("read_shelf", 3), 1, 0))

    def test_the_first_kept_entry(self):
        first = kept(8, a_file("q", thing=7, text="z", ids=((5, 1),)))
        second = kept(3, a_file("a", thing=8, text="x"))
        self.assertEqual(self.source(shelf=[kept(1, a_file("p")), first, second]), (("read_shelf", 8), 7, 0))
        self.assertEqual(self.source(shelf=[second, first]), (("read_shelf", 3), 8, 0))

    def test_only_kept_entries(self):
        was = a_file("a", text="x", ids=((5, 1),))
        for entry in [coming(1, (5, 1), "x", thing=1, length=1), found_there(1, was), going_back(1, was)]:
            self.assertIsNone(self.source(shelf=[entry]))

    def test_placed_files_come_before_kept_entries(self):
        shelf = [kept(3, a_file("z", text="x", ids=((5, 1),)))]
        item = a_file("a", thing=7, text="x")
        self.assertEqual(self.source(placed=[item], shelf=shelf), (("read", ("a",)), 7, 0))
        self.assertEqual(self.source(placed=[item], shelf=shelf, late=[("a",)])[0], ("read_shelf", 3))


class Lacking(unittest.TestCase):
    LINES = (
        a_line((1, 1), "a", text="x", head=(5, 1)), a_line((2, 1), "d"), a_line((3, 1), "b", text="y", inside=(2, 1)),
    )
    BOTH = [((5, 1), mark("x")), ((3, 1), mark("y"))]

    def lacking(self, lines=LINES, **more):
        state = a_state(lines, **more)
        before = looks_of(state)
        found = lacking(state)
        self.assertEqual(looks_of(state), before)
        return found

    def test_all_wanted_files_but_no_folders(self):
        self.assertEqual(self.lacking(), self.BOTH)
        self.assertEqual(self.lacking([]), [])

    def test_in_the_order_of_what_is_wanted(self):
        lines = [a_line((4, 1), "a", text="1"), a_line((1, 1), "b", text="2"), a_line((3, 1), "d", "c", text="3")]
        self.assertEqual([head for head, _ in self.lacking(lines)], [(1, 1), (3, 1), (4, 1)])

    def test_the_first_of_several_heads(self):
        lines = [a_line((3, 1), "a", text="x", head=(7, 1)), a_line((4, 1), "a", text="x", head=(6, 2))]
        self.assertEqual(self.lacking(lines), [((6, 2), mark("x"))])

    def test_files_that_are_put_away_are_not_wanted(self):
        self.assertEqual(self.lacking(away=[((5, 1), 0, 1)]), self.BOTH[1:])

    def test_a_placed_entry_with_the_path_and_the_content(self):
        self.assertEqual(self.lacking(placed=[a_file("a", text="x")]), self.BOTH[1:])
        self.assertEqual(self.lacking(placed=[a_file("z"), a_file("a", text="w"), a_file("a", text="x")]), self.BOTH[1:])
        self.assertEqual(self.lacking(placed=[a_file("a", text="x", ids=((3, 1),))]), self.BOTH[1:])
        self.assertEqual(self.lacking(placed=[a_file("a", text="x")], late=[("a",)]), self.BOTH[1:])

    def test_a_placed_entry_with_only_one_of_them(self):
        lines = [*self.LINES, a_line((4, 1), "o", text="o")]
        placed = [a_file("a", text="o"), a_folder("a"), a_file("o", text="x", ids=((5, 1),)), a_file("d", "b", text="z")]
        self.assertEqual(self.lacking(lines, placed=placed), self.BOTH + [((4, 1), mark("o"))])

    def test_its_text_lies_on_the_shelf(self):
        entry = kept(3, a_file("z", text="x", ids=((5, 1),)))
        self.assertEqual(self.lacking(shelf=[entry]), self.BOTH[1:])
        self.assertEqual(self.lacking(shelf=[entry], holding=[(1, 0, (5, 1), 3)]), self.BOTH)
        self.assertEqual(self.lacking(shelf=[kept(3, a_file("z", text="x", ids=((3, 1),)))]), self.BOTH)
        self.assertEqual(self.lacking(shelf=[kept(3, a_file("a", text="w", ids=((5, 1),)))]), self.BOTH)
        self.assertEqual(self.lacking(shelf=[coming(3, (5, 1), "x", thing=1, length=1)]), self.BOTH)

    def test_it_is_placed_where_nothing_is_wanted(self):
        for ids in [((5, 1),), ((5, 1), (3, 1)), (), ((9, 9),)]:
            self.assertEqual(self.lacking(placed=[a_file("q", text="x", ids=ids)]), self.BOTH[1:])
        self.assertEqual(self.lacking(placed=[a_file("q", "", text="x")], late=[("q", "")]), self.BOTH[1:])

    def test_it_does_not_serve_the_heads(self):
        self.assertEqual(self.lacking(placed=[a_file("q", text="x", ids=((3, 1),))]), self.BOTH)
        self.assertEqual(self.lacking(placed=[a_file("q", text="x", ids=((9, 9), (3, 1)))]), self.BOTH)

    def test_it_has_another_content(self):
        self.assertEqual(self.lacking(placed=[a_file("q", text="w", ids=((5, 1),))]), self.BOTH)

    def test_something_is_wanted_at_its_path(self):
        for path in [("d",), ("d", "b")]:
            self.assertEqual(self.lacking(placed=[a_file(*path, text="x", ids=((5, 1),))]), self.BOTH)
        # What is put away is not wanted.
        more = {"placed": [a_file("d", "b", text="x", ids=((5, 1),))], "away": [((3, 1), 0, 1)]}
        self.assertEqual(self.lacking(**more), [])

    def test_the_path_on_the_host_counts(self):
        rule = Rule(unfit=("a",))
        self.assertEqual(self.lacking(rule=rule, placed=[a_file("a (1-1)", text="x", ids=((3, 1),))]), self.BOTH[1:])
        # What gets the name of a copy comes after what has its own name.
        self.assertEqual(self.lacking(rule=rule, placed=[a_file("a", text="x", ids=((3, 1),))]), self.BOTH[::-1])


class ComingIn(unittest.TestCase):
    def test_the_first_entry_that_is_coming_for_the_head(self):
        was = a_file("a", ids=((5, 1),))
        shelf = [kept(0, was), found_there(1, was), going_back(2, was), coming(3, (4, 1), "x"), coming(4, (5, 1), "y"),
                 coming(5, (5, 1), "x")]
        state = a_state(shelf=shelf)
        self.assertIs(coming_entry(state, (5, 1)), shelf[4])
        self.assertIs(coming_entry(state, (4, 1)), shelf[3])
        self.assertIsNone(coming_entry(state, (1, 1)))
        self.assertIsNone(coming_entry(a_state(shelf=shelf[:3]), (5, 1)))

    def test_whole(self):
        for thing, length, whole in [(1, 3, True), (1, 4, True), (1, 2, False), (1, 0, False), (0, 3, False), (0, 0, False)]:
            self.assertIs(is_whole(coming(3, (5, 1), "abc", thing=thing, length=length)), whole)
        self.assertIs(is_whole(coming(3, (5, 1), "", thing=1)), True)
        self.assertIs(is_whole(coming(3, (5, 1), "", thing=0)), False)


class Expecting(unittest.TestCase):
    def test_a_new_entry_at_the_end(self):
        state = a_state(shelf=[kept(1, a_file("a"))], next_place=4)
        self.assertIsNone(expect(state, (5, 1), mark("abc")))
        self.assertEqual(shelf_rows(state.shelf)[1:], [(4, 0, 0, 0, 0, ("coming", (5, 1), mark("abc")))])
        self.assertEqual(state.next_place, 5)

    def test_a_head_that_comes_in_already(self):
        state = a_state(shelf=[coming(1, (5, 1), "x", thing=1, length=1)], next_place=4)
        before = looks_of(state)
        expect(state, (5, 1), mark("abc"))
        self.assertEqual(looks_of(state), before)
        expect(state, (6, 1), mark("abc"))
        self.assertEqual([entry.place for entry in state.shelf], [1, 4])


class SeeingTo(unittest.TestCase):
    LINES = (a_line((1, 1), "a", text="abc", head=(5, 1)), a_line((2, 1), "b", text="bcd"))
    SOURCES = (kept(7, a_file("z", text="?", ids=((5, 1),))), kept(8, a_file("z", text="?", ids=((2, 1),))))

    def see(self, *shelf, lines=LINES, **more):
        """Sees to it twice, of which the second time changes nothing, and returns the state."""
        more = {"next_place": 9, "late": [("l",)], **more}
        state = a_state(lines, shelf=shelf, **more)
        before = looks_of(state)
        rows_before = shelf_rows(shelf)
        self.assertIsNone(see_to_coming(state))
        after = looks_of(state)
        self.assertEqual(shelf_rows(shelf), rows_before)
        unchanged = [name for name in before if name not in ("shelf", "next_place", "pieces", "requests")]
        self.assertEqual([after[name] for name in unchanged], [before[name] for name in unchanged])
        see_to_coming(state)
        self.assertEqual(looks_of(state), after)
        return state

    def places(self, state):
        return [entry.place for entry in state.shelf]

    # Step 1

    def test_entries_for_what_is_no_head_any_more_are_removed(self):
        state = self.see(coming(1, (1, 1), "abc"), coming(2, (9, 9), "x", length=3), lines=[])
        self.assertEqual((self.places(state), state.next_place), ([], 9))

    def test_not_if_something_lies_there(self):
        entry = coming(1, (9, 9), "abc", thing=4)
        self.assertEqual(shelf_rows(self.see(entry, lines=[]).shelf), [shelved_row(entry)])

    def test_not_if_it_is_a_head(self):
        state = self.see(coming(1, (5, 1), "abc"), coming(2, (2, 1), "bcd"))
        self.assertEqual(self.places(state), [1, 2])

    def test_other_entries_stay(self):
        was = a_file("a", thing=0)
        shelf = [kept(1, was), found_there(2, was, thing=0), going_back(3, was, thing=0)]
        self.assertEqual(shelf_rows(self.see(*shelf, lines=[]).shelf), shelf_rows(shelf))

    # Step 2

    def test_lacking_files_are_expected(self):
        state = self.see()
        self.assertEqual(shelf_rows(state.shelf), [
            (9, 0, 0, 0, 0, ("coming", (5, 1), mark("abc"))), (10, 0, 0, 0, 0, ("coming", (2, 1), mark("bcd")))])
        self.assertEqual((state.next_place, state.requests), (11, []))

    def test_only_those_that_do_not_come_in_yet(self):
        state = self.see(coming(1, (2, 1), "bcd", thing=3, length=2))
        self.assertEqual(self.places(state), [1, 9])
        self.assertEqual(state.shelf[1].purpose, ("coming", (5, 1), mark("abc")))

    def test_files_that_are_not_lacking(self):
        state = self.see(kept(1, a_file("z", text="bcd")), placed=[a_file("a", text="abc")])
        self.assertEqual((self.places(state), state.next_place, state.requests), ([1], 9, []))

    def test_an_entry_that_step_1_removed_is_not_in_the_way(self):
        state = self.see(coming(1, (1, 1), "abc"), lines=self.LINES[:1])
        self.assertEqual([(entry.place, entry.purpose[1]) for entry in state.shelf], [(9, (5, 1))])

    def test_a_head_that_comes_in_for_another_content_comes_in(self):
        state = self.see(coming(1, (5, 1), "other"), lines=self.LINES[:1])
        self.assertEqual(self.places(state), [1])

    # Step 3

    def test_pieces_that_do_not_fit_any_more_are_removed(self):
        fitting = [((5, 1), 2, "c"), ((2, 1), 0, "bcd"), ((5, 1), 2, "cd")]
        others = [((5, 1), 0, "ab"), ((5, 1), 3, "d"), ((2, 1), 1, "cd"), ((9, 9), 0, "x")]
        pieces = [others[0], fitting[0], others[1], fitting[1], others[2], others[3], fitting[2]]
        state = self.see(coming(1, (5, 1), "abc", thing=4, length=2), coming(2, (2, 1), "bcd"), pieces=pieces)
        self.assertEqual(state.pieces, fitting)

    def test_pieces_for_what_is_whole(self):
        state = self.see(coming(1, (5, 1), "abc", thing=4, length=3), pieces=[((5, 1), 3, "x")], lines=self.LINES[:1])
        self.assertEqual(state.pieces, [])
        state = self.see(coming(1, (5, 1), "abc", thing=0, length=3), pieces=[((5, 1), 3, "x")], lines=self.LINES[:1])
        self.assertEqual(state.pieces, [((5, 1), 3, "x")])

    def test_pieces_for_what_step_1_removed_and_for_what_step_2_added(self):
        state = self.see(coming(1, (1, 1), "abc"), pieces=[((1, 1), 0, "x"), ((5, 1), 0, "y"), ((5, 1), 1, "z")])
        self.assertEqual(state.pieces, [((5, 1), 0, "y")])

    def test_the_first_of_two_entries_for_one_head_counts(self):
        shelf = [coming(1, (5, 1), "abc", thing=4, length=1), coming(2, (5, 1), "abc", thing=5, length=2)]
        pieces = [((5, 1), 2, "x"), ((5, 1), 1, "y")]
        self.assertEqual(self.see(*shelf, pieces=pieces, lines=self.LINES[:1]).pieces, [((5, 1), 1, "y")])

    # Step 4

    def test_what_has_a_source_is_requested(self):
        state = self.see(coming(1, (2, 1), "bcd", thing=4, length=2), *self.SOURCES)
        self.assertEqual(state.requests, [(0, (2, 1), 2), (0, (5, 1), 0)])

    def test_what_has_no_source_is_not_requested(self):
        state = self.see(coming(1, (2, 1), "bcd", thing=4, length=2), self.SOURCES[0])
        self.assertEqual(state.requests, [(0, (5, 1), 0)])

    def test_what_is_whole_is_requested_though_it_has_no_source(self):
        state = self.see(coming(1, (5, 1), "abc", thing=4, length=3), coming(2, (2, 1), "bcd", thing=5, length=7))
        self.assertEqual(state.requests, [(0, (5, 1), 3), (0, (2, 1), 7)])

    def test_a_request_of_this_device_for_the_head_waits(self):
        for start in [0, 2]:
            requests = [(1, (2, 1), 2), (0, (5, 1), start), (0, (9, 9), 0)]
            state = self.see(*self.SOURCES, requests=requests)
            self.assertEqual(state.requests, requests + [(0, (2, 1), 0)])

    def test_two_entries_for_one_head_are_both_requested(self):
        shelf = [coming(1, (5, 1), "abc"), coming(2, (5, 1), "abc", thing=4, length=1)]
        state = a_state(self.LINES[:1], shelf=[*shelf, self.SOURCES[0]], next_place=9)
        see_to_coming(state)
        self.assertEqual(state.requests, [(0, (5, 1), 0), (0, (5, 1), 1)])
        see_to_coming(state)
        self.assertEqual(state.requests, [(0, (5, 1), 0), (0, (5, 1), 1)])

    def test_a_piece_for_one_of_two_entries_for_one_head(self):
        shelf = [coming(1, (5, 1), "abc", thing=4, length=1), coming(2, (5, 1), "abc", thing=6, length=2)]
        state = a_state(self.LINES[:1], shelf=[*shelf, self.SOURCES[0]], pieces=[((5, 1), 1, "b")])
        see_to_coming(state)
        self.assertEqual(state.requests, [(0, (5, 1), 2)])

    def test_a_piece_has_come_that_starts_at_the_length_of_the_entry(self):
        state = self.see(*self.SOURCES, pieces=[((5, 1), 0, "ab")])
        self.assertEqual((state.requests, state.pieces), ([(0, (2, 1), 0)], [((5, 1), 0, "ab")]))

    def test_a_piece_that_does_not_fit_any_more_is_not_in_the_way(self):
        state = self.see(
            coming(1, (5, 1), "abc", thing=4, length=3), pieces=[((5, 1), 3, "x")], lines=self.LINES[:1])
        self.assertEqual((state.requests, state.pieces), ([(0, (5, 1), 3)], []))
        state = self.see(
            coming(1, (5, 1), "abc", thing=4, length=2), self.SOURCES[0], pieces=[((5, 1), 0, "ab")], lines=self.LINES[:1])
        self.assertEqual((state.requests, state.pieces), ([(0, (5, 1), 2)], []))

    def test_what_is_no_head_any_more_but_lies_there_is_requested(self):
        state = self.see(coming(1, (9, 9), "abc", thing=4, length=3), lines=[])
        self.assertEqual(state.requests, [(0, (9, 9), 3)])
        state = self.see(
            coming(1, (9, 9), "abc", thing=4, length=1), kept(2, a_file("a", text="abc", ids=((9, 9),))), lines=[])
        self.assertEqual(state.requests, [(0, (9, 9), 1)])
        self.assertEqual(self.see(coming(1, (9, 9), "abc", thing=4, length=1), lines=[]).requests, [])

    def test_what_is_placed_stays(self):
        placed = [a_file("a", text="?", ids=((5, 1),)), a_folder("d")]
        before = rows(placed)
        state = self.see(placed=placed, lines=self.LINES[:1])
        self.assertEqual(rows(state.placed), before)
        self.assertEqual(state.requests, [(0, (5, 1), 0)])

    def test_the_own_device_need_not_be_0(self):
        state = a_state(self.LINES[:1], shelf=[self.SOURCES[0]], requests=[(0, (5, 1), 0)])
        state.me = 2
        see_to_coming(state)
        self.assertEqual(state.requests, [(0, (5, 1), 0), (2, (5, 1), 0)])

    def test_nothing_is_to_come(self):
        state = self.see(lines=[])
        self.assertEqual((state.shelf, state.requests, state.pieces, state.next_place), ([], [], [], 9))


if __name__ == "__main__":
    unittest.main()
