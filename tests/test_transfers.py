"""Point 96: how texts that come in are laid on the shelf."""

import unittest

from foldkeep.marks import MOST_PIECE
from foldkeep.state import Shelved
from foldkeep.transfers import fits_now, next_staging
from keeps import a_file, a_line, a_state, coming, found_there, going_back, kept, looks_of, mark

LINES = (a_line((1, 1), "a", text="abc", head=(5, 1)), a_line((2, 1), "b", text="bcd"))
GONE = (9, 9)


class Staging(unittest.TestCase):
    def staging(self, *shelf, lines=LINES, pieces=(), **more):
        state = a_state(lines, shelf=shelf, pieces=pieces, next_place=20, **more)
        before = looks_of(state)
        operation = next_staging(state)
        self.assertEqual(looks_of(state), before)
        return operation

    def test_nothing_comes_in(self):
        was = a_file("a", text="abc", ids=((5, 1),))
        self.assertIsNone(self.staging())
        self.assertIsNone(self.staging(kept(1, was), found_there(2, was), going_back(3, was), pieces=[((5, 1), 0, "abc")]))

    # The head is no head any more.

    def test_what_is_no_head_any_more_is_dropped(self):
        for length in [0, 2, 3, 9]:
            self.assertEqual(self.staging(coming(4, GONE, "abc", thing=7, count=3, length=length)), ("drop", 4, 3))
        # The line is one of a head that was replaced.
        self.assertEqual(self.staging(coming(4, (1, 1), "abc", thing=7)), ("drop", 4, 0))

    def test_nothing_lies_there_for_what_is_no_head_any_more(self):
        for length in [0, 3]:
            self.assertIsNone(self.staging(coming(4, GONE, "abc", count=3, length=length), pieces=[(GONE, length, "abc")]))
        self.assertIsNone(self.staging(coming(4, GONE, "")))

    def test_a_piece_does_not_help_what_is_no_head_any_more(self):
        entry = coming(4, GONE, "abc", thing=7, length=1)
        self.assertEqual(self.staging(entry, pieces=[(GONE, 1, "bc")]), ("drop", 4, 0))

    def test_a_head_of_a_folder_is_a_head(self):
        lines = [a_line((1, 1), "d")]
        self.assertIsNone(self.staging(coming(4, (1, 1), "abc", thing=7), lines=lines))

    # The entry is whole.

    def test_nothing_for_what_is_whole(self):
        for length in [3, 4]:
            entry = coming(4, (5, 1), "abc", thing=7, length=length)
            self.assertIsNone(self.staging(entry, pieces=[((5, 1), length, "abc")]))

    # The text is empty.

    def test_an_empty_text(self):
        lines = [a_line((1, 1), "a", text="")]
        self.assertEqual(self.staging(coming(4, (1, 1), ""), lines=lines), ("stage", 4, "", False))
        self.assertIsNone(self.staging(coming(4, (1, 1), "", thing=7), lines=lines))
        entry = Shelved(4, 0, 0, 0, 0, ("coming", (1, 1), mark("", True)))
        self.assertEqual(self.staging(entry, lines=lines), ("stage", 4, "", True))

    def test_an_empty_text_takes_no_piece(self):
        self.assertEqual(self.staging(coming(4, (5, 1), ""), pieces=[((5, 1), 0, "abc")]), ("stage", 4, "", False))

    # A piece has come.

    def test_a_piece_that_starts_at_the_length_of_the_entry(self):
        for thing, length, text in [(0, 0, "abc"), (0, 0, "a"), (7, 0, "ab"), (7, 1, "b"), (7, 2, "c")]:
            entry = coming(4, (5, 1), "abc", thing=thing, length=length)
            self.assertEqual(self.staging(entry, pieces=[((5, 1), length, text)]), ("stage", 4, text, False))

    def test_pieces_that_start_elsewhere(self):
        entry = coming(4, (5, 1), "abc", thing=7, length=1)
        self.assertIsNone(self.staging(entry))
        self.assertIsNone(self.staging(entry, pieces=[((5, 1), 0, "a"), ((5, 1), 2, "c"), ((5, 1), 3, "d")]))

    def test_pieces_for_another_head(self):
        entry = coming(4, (5, 1), "abc", thing=7, length=1)
        self.assertIsNone(self.staging(entry, pieces=[((2, 1), 1, "bc"), ((5, 2), 1, "bc"), ((1, 1), 1, "bc")]))

    def test_of_several_pieces_the_first_one_counts(self):
        pieces = [((5, 1), 0, "x"), ((2, 1), 1, "y"), ((5, 1), 1, "b"), ((5, 1), 1, "bc")]
        entry = coming(4, (5, 1), "abc", thing=7, length=1)
        self.assertEqual(self.staging(entry, pieces=pieces), ("stage", 4, "b", False))

    def test_only_as_much_as_is_missing(self):
        for length, text in [(0, "xyz"), (1, "xy"), (2, "x")]:
            entry = coming(4, (5, 1), "abc", thing=7, length=length)
            self.assertEqual(self.staging(entry, pieces=[((5, 1), length, "xyz...")]), ("stage", 4, text, False))

    def test_nothing_is_missing_but_nothing_lies_there(self):
        for length in [3, 5]:
            entry = coming(4, (5, 1), "abc", length=length)
            self.assertEqual(self.staging(entry, pieces=[((5, 1), length, "xyz")]), ("stage", 4, "", False))

    def test_a_long_piece(self):
        text = "x" * MOST_PIECE
        entry = coming(4, (5, 1), text + "y")
        self.assertEqual(self.staging(entry, pieces=[((5, 1), 0, text)]), ("stage", 4, text, False))

    def test_whether_it_runs_is_as_in_the_mark(self):
        for runs in [False, True]:
            entry = Shelved(4, 7, 0, 0, 1, ("coming", (5, 1), mark("abc", runs)))
            operation = self.staging(entry, pieces=[((5, 1), 1, "bc")])
            self.assertEqual(operation, ("stage", 4, "bc", runs))
            self.assertIs(operation[3], runs)

    # The order of several entries.

    def test_the_first_entry_for_which_there_is_an_operation(self):
        dropped = coming(6, GONE, "abc", thing=7, count=1)
        staged = coming(5, (5, 1), "abc", thing=8, length=1)
        empty = coming(3, (2, 1), "")
        whole = coming(1, (5, 1), "abc", thing=9, length=3)
        waiting = coming(2, (2, 1), "bcd", thing=9, length=2)
        nothing = coming(4, GONE, "x")
        pieces = [((5, 1), 1, "bc")]
        operations = {dropped: ("drop", 6, 1), staged: ("stage", 5, "bc", False), empty: ("stage", 3, "", False)}
        self.assertIsNone(self.staging(whole, waiting, nothing, pieces=pieces))
        for first in operations:
            for second in operations:
                if first is not second:
                    shelf = [kept(0, a_file("a", text="abc")), whole, waiting, nothing, first, second]
                    self.assertEqual(self.staging(*shelf, pieces=pieces), operations[first])

    def test_two_entries_for_one_head(self):
        shelf = [coming(1, (5, 1), "abc", thing=7, length=1), coming(2, (5, 1), "abc", thing=8, length=2)]
        self.assertEqual(self.staging(*shelf, pieces=[((5, 1), 2, "c")]), ("stage", 2, "c", False))
        self.assertEqual(self.staging(*shelf, pieces=[((5, 1), 2, "c"), ((5, 1), 1, "b")]), ("stage", 1, "b", False))

    def test_a_path_that_is_late_does_not_matter(self):
        entry = coming(4, (5, 1), "abc", thing=7, length=1)
        self.assertEqual(
            self.staging(entry, pieces=[((5, 1), 1, "bc")], late=[("a",)]), ("stage", 4, "bc", False))


class FitsNow(unittest.TestCase):
    def test_it_comes_in_and_goes_on_there(self):
        state = a_state(LINES, shelf=[coming(4, (5, 1), "abc", thing=7, length=1)])
        for start, fits in [(0, False), (1, True), (2, False)]:
            self.assertIs(fits_now(state, (5, 1), start), fits)

    def test_it_does_not_come_in(self):
        was = a_file("a", text="abc", ids=((5, 1),))
        state = a_state(LINES, shelf=[kept(4, was), coming(5, (2, 1), "bcd")])
        self.assertIs(fits_now(state, (5, 1), 0), False)
        self.assertIs(fits_now(state, (2, 1), 0), True)

    def test_it_is_whole(self):
        for thing, length, fits in [(7, 3, False), (7, 4, False), (0, 3, True), (0, 0, True)]:
            state = a_state(LINES, shelf=[coming(4, (5, 1), "abc", thing=thing, length=length)])
            self.assertIs(fits_now(state, (5, 1), length), fits)

    def test_it_need_not_be_a_head(self):
        state = a_state(LINES, shelf=[coming(4, GONE, "abc")])
        self.assertIs(fits_now(state, GONE, 0), True)

    def test_the_first_entry_for_the_head_counts(self):
        shelf = [coming(1, (5, 1), "abc", thing=7, length=1), coming(2, (5, 1), "abc", thing=8, length=2)]
        state = a_state(LINES, shelf=shelf)
        self.assertIs(fits_now(state, (5, 1), 1), True)
        self.assertIs(fits_now(state, (5, 1), 2), False)


if __name__ == "__main__":
    unittest.main()
