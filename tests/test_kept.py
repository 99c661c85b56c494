"""Points 113 to 116: what is spare, trimming, dropping, and restoring."""

import unittest

from foldkeep.errors import NotNow
from foldkeep.kept import is_spare, next_drop, wish_restore, wish_trim
from foldkeep.state import Placed
from keeps import (
    a_file, a_folder, a_line, a_state, coming, found_there, going_back, kept, looks_of, mark, rows, shelf_rows,
)

HEAD = (5, 1)
LINES = (a_line((1, 1), "a", text="abc", head=HEAD), a_line((3, 1), "d"))
OLD = kept(4, a_file("a", thing=7, text="old", ids=((1, 1),)), count=2, length=3)
CHANGE = (("take", ("a",), 3), (), (), None, None)


class Spare(unittest.TestCase):
    """Point 113."""

    def spare(self, entry=OLD, lines=LINES, beside=(), **more):
        state = a_state(lines, shelf=[entry, *beside], **more)
        before = looks_of(state)
        answer = is_spare(state, entry)
        self.assertEqual(looks_of(state), before)
        return answer

    def test_a_text_that_was_replaced(self):
        self.assertIs(self.spare(), True)
        self.assertIs(self.spare(kept(4, a_file("a", text="old"))), True)

    def test_entries_that_are_not_kept(self):
        was = OLD.purpose[1]
        for entry in [coming(4, (1, 1), "old", thing=7, length=3), found_there(4, was), going_back(4, was, thing=8)]:
            self.assertIs(self.spare(entry), False)

    def test_its_place_is_held(self):
        self.assertIs(self.spare(holding=[(1, 0, HEAD, 4)]), False)
        self.assertIs(self.spare(holding=[(1, 0, HEAD, 3)]), True)

    def test_one_of_its_ids_is_a_head(self):
        for ids in [(HEAD,), ((1, 1), HEAD), ((3, 1),)]:
            self.assertIs(self.spare(kept(4, a_file("a", thing=7, text="old", ids=ids))), False)

    def test_its_head_is_put_away(self):
        entry = kept(4, a_file("a", thing=7, text="old", ids=((1, 1), HEAD)))
        self.assertIs(self.spare(entry, away=[(HEAD, 0, 1)]), True)
        self.assertIs(self.spare(entry, away=[(HEAD, 0, 1)], fetching=[HEAD]), False)
        self.assertIs(self.spare(entry, away=[(HEAD, 0, 1)], fetching=[(1, 1)]), True)
        both = kept(4, a_file("a", thing=7, text="old", ids=(HEAD, (3, 1))))
        self.assertIs(self.spare(both, away=[(HEAD, 0, 1)]), False)

    def test_a_placed_file_has_the_same_thing(self):
        self.assertIs(self.spare(placed=[a_file("b", thing=7, count=9, text="q")]), False)
        self.assertIs(self.spare(placed=[a_file("b", thing=8), a_folder("d", thing=7)]), True)

    def test_something_that_goes_back_has_the_same_thing(self):
        self.assertIs(self.spare(beside=[going_back(5, a_file("b", thing=7), thing=9)]), False)
        self.assertIs(self.spare(beside=[going_back(5, a_file("b", thing=9), thing=7)]), True)
        self.assertIs(self.spare(beside=[going_back(5, a_folder("b", thing=7), thing=9)]), True)

    def test_other_entries_of_the_shelf_may_have_the_same_thing(self):
        beside = [kept(5, a_file("b", thing=7, text="q")), found_there(6, a_file("b", thing=7), thing=7)]
        self.assertIs(self.spare(beside=beside), True)

    def test_the_thing_of_the_entry_counts_and_not_the_one_of_what_it_is_kept_as(self):
        entry = kept(4, a_file("a", thing=7, text="old"), thing=8)
        self.assertIs(self.spare(entry, placed=[a_file("b", thing=7)]), True)
        self.assertIs(self.spare(entry, placed=[a_file("b", thing=8)]), False)

    # A line has the same content.

    SAME = kept(4, a_file("q", thing=7, text="abc", ids=((1, 1),)))

    def test_a_line_has_its_content(self):
        self.assertIs(self.spare(self.SAME), False)
        self.assertIs(self.spare(self.SAME, lines=LINES[1:]), True)

    def test_the_head_of_this_line_is_put_away(self):
        self.assertIs(self.spare(self.SAME, away=[(HEAD, 0, 1)]), True)
        self.assertIs(self.spare(self.SAME, away=[(HEAD, 0, 1)], fetching=[HEAD]), False)

    def test_a_placed_file_has_this_head(self):
        self.assertIs(self.spare(self.SAME, placed=[a_file("b", thing=9, text="q", ids=((2, 2), HEAD))]), True)
        self.assertIs(self.spare(self.SAME, placed=[a_folder("b", thing=9, ids=(HEAD,))]), False)
        self.assertIs(self.spare(self.SAME, placed=[a_file("b", thing=9, text="abc", ids=((1, 1),))]), False)

    def test_what_is_kept_at_another_place_has_this_head(self):
        was = a_file("b", thing=9, text="q", ids=(HEAD,))
        self.assertIs(self.spare(self.SAME, beside=[kept(5, was)]), True)
        other = kept(5, a_file("b", thing=9, text="abc", ids=((1, 1), (9, 9))))
        for beside in [kept(4, was), found_there(5, was), going_back(5, was), coming(5, HEAD, "abc"), other]:
            self.assertIs(self.spare(self.SAME, beside=[beside]), False)

    def test_several_lines_with_its_content(self):
        lines = [*LINES, a_line((6, 1), "z", text="abc")]
        self.assertIs(self.spare(self.SAME, lines=lines, away=[(HEAD, 0, 1)]), False)
        self.assertIs(self.spare(self.SAME, lines=lines, away=[((6, 1), 0, 1)]), False)
        self.assertIs(self.spare(self.SAME, lines=lines, away=[((6, 1), 0, 1), (HEAD, 1, 1)]), True)
        placed = [a_file("b", thing=9, text="abc", ids=((6, 1),))]
        self.assertIs(self.spare(self.SAME, lines=lines, away=[(HEAD, 1, 1)], placed=placed), True)

    def test_it_may_be_spare_while_something_is_pending(self):
        self.assertIs(self.spare(pending=CHANGE, stage=("look",)), True)


class Trimming(unittest.TestCase):
    """Point 114."""

    SHELF = (
        kept(6, a_file("a", thing=11, text="1")), kept(2, a_file("a", thing=12, text="2", ids=(HEAD,))),
        coming(3, HEAD, "abc"), kept(1, a_file("a", thing=13, text="3")), kept(9, a_file("a", thing=14, text="4")),
    )

    def trim(self, most, **more):
        state = a_state(LINES, **{"shelf": self.SHELF, "drops": [77], "next_place": 10, **more})
        before = looks_of(state)
        self.assertIsNone(wish_trim(state, most))
        after = looks_of(state)
        drops = after.pop("drops")
        before.pop("drops")
        self.assertEqual(after, before)
        return drops

    def test_so_many_are_left(self):
        for most, drops in [(0, [6, 1, 9]), (1, [6, 1]), (2, [6]), (3, []), (4, []), (1000, [])]:
            self.assertEqual(self.trim(most), drops)

    def test_nothing_is_spare(self):
        self.assertEqual(self.trim(0, shelf=[]), [])
        self.assertEqual(self.trim(0, shelf=self.SHELF[1:3]), [])

    def test_it_may_be_wished_while_something_is_pending(self):
        self.assertEqual(self.trim(2, pending=CHANGE, stage=("look",)), [6])


class Dropping(unittest.TestCase):
    """Point 115."""

    FIRST = kept(6, a_file("a", thing=11, count=4, text="1"), count=5)
    SECOND = kept(1, a_file("a", thing=12, text="2"))
    NEEDED = kept(2, a_file("a", thing=13, text="3", ids=(HEAD,)))

    def drop(self, drops, left, shelf=(FIRST, SECOND, NEEDED), **more):
        state = a_state(LINES, shelf=shelf, drops=drops, next_place=10, **more)
        before = looks_of(state)
        operation = next_drop(state)
        self.assertEqual(looks_of(state), {**before, "drops": left})
        return operation

    def test_the_first_place(self):
        self.assertEqual(self.drop([6, 1], [1]), ("drop", 6, 5))
        self.assertEqual(self.drop([1, 6], [6]), ("drop", 1, 0))
        self.assertEqual(self.drop([6], []), ("drop", 6, 5))

    def test_no_place(self):
        self.assertIsNone(self.drop([], []))

    def test_places_at_which_nothing_spare_lies(self):
        self.assertEqual(self.drop([2, 7, 6, 2, 1], [2, 1]), ("drop", 6, 5))
        self.assertIsNone(self.drop([2, 7, 2], []))
        self.assertEqual(self.drop([6, 1], [], placed=[a_file("b", thing=11)]), ("drop", 1, 0))
        self.assertIsNone(self.drop([6, 1], [], holding=[(1, 0, HEAD, 6), (1, 1, HEAD, 1)]))

    def test_the_first_entry_at_the_place_counts(self):
        needed = kept(6, a_file("a", thing=13, text="3", ids=(HEAD,)))
        self.assertIsNone(self.drop([6], [], shelf=[needed, self.FIRST]))
        self.assertEqual(self.drop([6], [], shelf=[self.FIRST, needed]), ("drop", 6, 5))

    def test_a_place_that_is_named_twice(self):
        self.assertEqual(self.drop([6, 6], [6]), ("drop", 6, 5))


class Restoring(unittest.TestCase):
    """Point 116."""

    PLACED = (a_folder("d", thing=3, ids=((3, 1),), line=(3, 1), names=("D",)), a_file("a", thing=9, text="abc", ids=(HEAD,)))
    OLD = kept(4, a_file("a", thing=7, count=1, cuts=2, text="old", ids=((1, 1), (2, 1)), line=(1, 1), names=("N",)),
               thing=8, count=5, cuts=6, length=3)
    SHELF = (coming(3, (2, 1), "x"), OLD, kept(5, a_file("b", text="q")))

    def state(self, **more):
        return a_state(LINES, **{"placed": self.PLACED, "shelf": self.SHELF, "next_place": 10, "had": [(("a",), (HEAD,))], **more})

    def restore(self, place, path, **more):
        """Restores; checks what stays, and returns the edit that is made and the row of the entry."""
        state = self.state(**more)
        shelf = list(state.shelf)
        before = (looks_of(state), shelf_rows(shelf))
        self.assertIsNone(wish_restore(state, place, path))
        self.assertEqual(shelf_rows(shelf), before[1])
        after = looks_of(state)
        self.assertEqual({name for name in after if after[name] != before[0][name]}, {"shelf", "know"})
        self.assertEqual(len(state.know.rest), 1)
        at = [entry.place for entry in shelf].index(place)
        told = shelf_rows(state.shelf)
        self.assertEqual(told[:at] + told[at + 1:], before[1][:at] + before[1][at + 1:])
        return state.know.rest[0], told[at]

    def test_what_it_writes_and_keeps(self):
        edit, row = self.restore(4, ("new",))
        self.assertEqual(edit, ("write", (6, 0), (None, ("new",), ("new",)), mark("old"), None, ()))
        was = (("new",), ("new",), 7, 1, 2, mark("old"), ((6, 0),), (6, 0), True)
        self.assertEqual(row, (4, 8, 5, 6, 3, ("kept", was)))

    def test_the_place_is_made_by_what_is_placed(self):
        edit, row = self.restore(4, ("d", "new"))
        self.assertEqual(edit[2], ((3, 1), ("new",), ("D", "new")))
        self.assertEqual(row[5][1][:2], (("d", "new"), ("D", "new")))
        edit, row = self.restore(4, ("q", "r", "new"))
        self.assertEqual(edit[2], (None, ("q", "r", "new"), ("q", "r", "new")))
        self.assertEqual(row[5][1][:2], (("q", "r", "new"), ("q", "r", "new")))

    def test_something_is_placed_at_the_path(self):
        for path in [("a",), ("d",)]:
            edit, row = self.restore(4, path)
            self.assertEqual((edit[2], edit[5]), ((None, path, path), ()))
            self.assertEqual(row[5][1][:2], (path, path))

    def test_whether_a_scan_has_seen_it_stays(self):
        entry = kept(4, a_file("a", text="old", seen=False))
        self.assertIs(self.restore(4, ("new",), shelf=[entry])[1][5][1][8], False)

    def test_without_ids(self):
        edit, row = self.restore(5, ("new",))
        self.assertEqual(edit[3], mark("q"))
        self.assertEqual(row[5][1][6:8], (((6, 0),), (6, 0)))

    def test_a_content_that_a_line_has(self):
        edit, _ = self.restore(4, ("new",), shelf=[kept(4, a_file("a", text="abc", ids=((1, 1),)))])
        self.assertEqual(edit[3:], (mark("abc"), None, ()))

    def test_the_first_entry_at_the_place_counts(self):
        edit, _ = self.restore(4, ("new",), shelf=[kept(4, a_file("b", text="q")), self.OLD])
        self.assertEqual(edit[3], mark("q"))
        self.refused(4, ("new",), shelf=[coming(4, (2, 1), "x"), self.OLD])

    def test_it_may_be_wished_in_other_stages(self):
        for stage in [("look",), ("scan",), ("serving",), ("reading", 4, True)]:
            self.restore(4, ("new",), stage=stage)

    # Refusals

    def refused(self, place, path, **more):
        state = self.state(**more)
        before = looks_of(state)
        with self.assertRaises(NotNow, msg=str((place, path, more))):
            wish_restore(state, place, path)
        self.assertEqual(looks_of(state), before)

    def test_no_kept_entry_lies_there(self):
        self.refused(0, ("new",))
        self.refused(3, ("new",))
        was = self.OLD.purpose[1]
        for entry in [found_there(4, was), going_back(4, was)]:
            self.refused(4, ("new",), shelf=[entry])

    def test_it_is_kept_as_a_folder(self):
        stand_in = Placed(("a",), ("a",), 0, 0, 0, None, (), None, False)
        self.refused(4, ("new",), shelf=[kept(4, stand_in)])

    def test_paths_that_cannot_be(self):
        for path in [(), ("",), ("a", ""), ("", "a"), (".",), ("a", ".."), ("a/b",), ("x" * 101,), ("a\tb",)]:
            self.refused(4, path)

    def test_names_that_do_not_fit_the_host_can_be(self):
        self.restore(4, ("x" * 100,))

    def test_a_change_is_pending(self):
        self.refused(4, ("new",), pending=CHANGE, stage=("look",))
        self.refused(4, ("new",), pending=CHANGE)

    def test_one_of_its_ids_is_a_head(self):
        for ids in [(HEAD,), ((1, 1), HEAD), ((3, 1),)]:
            self.refused(4, ("new",), shelf=[kept(4, a_file("a", text="old", ids=ids))])
            self.refused(4, ("new",), shelf=[kept(4, a_file("a", text="old", ids=ids))], away=[(HEAD, 0, 1), ((3, 1), 1, 1)])

    def test_its_place_is_held(self):
        self.refused(4, ("new",), holding=[(1, 0, HEAD, 4)])
        self.restore(4, ("new",), holding=[(1, 0, HEAD, 5)])

    def test_it_cannot_be_restored_twice(self):
        state = self.state()
        wish_restore(state, 4, ("new",))
        before = looks_of(state)
        with self.assertRaises(NotNow):
            wish_restore(state, 4, ("newer",))
        self.assertEqual(looks_of(state), before)

    def test_what_is_placed_stays(self):
        state = self.state()
        wish_restore(state, 4, ("new",))
        self.assertEqual(rows(state.placed), rows(self.PLACED))
        self.assertEqual(state.had, [(("a",), (HEAD,))])


if __name__ == "__main__":
    unittest.main()
