"""Point 90: what was found on the shelf where something else was expected."""

import unittest

from foldkeep.names import Rule
from foldkeep.otherwise import read_found
from foldkeep.state import placed_row, shelved_row
from keeps import (
    a_file, a_folder, a_line, a_state, coming, found_there, going_back, kept, looks_of, mark, rows, shelf_rows,
)

WAS = a_file("d", "a (1-1)", thing=5, count=2, cuts=1, text="x", ids=((6, 1),), line=(2, 1), names=("D", "a"))
LINES = (a_line((1, 1), "D"), a_line((2, 1), "a", text="x", inside=(1, 1), head=(6, 1)))
PLACED = (a_folder("d", names=("D",), ids=((1, 1),), line=(1, 1)),)
PLACE = ((1, 1), ("a",), ("D", "a"))


def text(text="y", *, thing=7, count=3, cuts=4, runs=False):
    return ("text", thing, count, cuts, text, runs)


class Case(unittest.TestCase):
    def read(self, answer, was=WAS, *, was_read=False, lines=LINES, placed=PLACED, shelf=None, **more):
        """Reads what was found at the place 3; returns the state and the edits that were made."""
        if shelf is None:
            shelf = [kept(1, WAS), found_there(3, was, thing=9, count=9, cuts=9, length=9), coming(0, (1, 1), "x")]
        state = a_state(lines, placed=placed, shelf=shelf, stage=("reading", 3, was_read), next_place=5, **more)
        before = (shelf_rows(shelf), rows(placed))
        self.assertIsNone(read_found(state, 3, was_read, answer))
        self.assertEqual((shelf_rows(shelf), rows(placed)), before)
        self.assertEqual(rows(state.placed), rows(placed))
        self.assertEqual((state.stage, state.next_place), (("idle",), 5))
        return (state, state.know.rest)


class AsExpected(Case):
    def test_it_becomes_kept_as_what_was_expected(self):
        was = a_file("a", thing=5, count=2, cuts=1, text="x", ids=((6, 1), (7, 7)), line=(2, 1), names=("A",), seen=False)
        for was in [WAS, was]:
            state, edits = self.read(text("x"), was, had=[(("a",), ((8, 8),))])
            self.assertEqual(edits, [])
            row = (was.path, was.names, 7, 3, 4, mark("x"), was.ids, was.line, was.seen)
            self.assertEqual(shelf_rows(state.shelf)[1], (3, 7, 3, 4, 1, ("kept", row)))
            self.assertEqual(state.had, [(("a",), ((8, 8),))])

    def test_the_other_entries_stay_as_they_are(self):
        state, _ = self.read(text("x"))
        self.assertEqual(shelved_row(state.shelf[0]), shelved_row(kept(1, WAS)))
        self.assertEqual(shelved_row(state.shelf[2]), shelved_row(coming(0, (1, 1), "x")))

    def test_the_same_text_that_runs_is_not_what_was_expected(self):
        _, edits = self.read(text("x", runs=True))
        self.assertEqual([edit[3] for edit in edits], [mark("x", True)])

    def test_an_empty_text(self):
        state, edits = self.read(text("", thing=8, count=0, cuts=0), a_file("a", text=""))
        self.assertEqual(edits, [])
        self.assertEqual(shelf_rows(state.shelf)[1][:5], (3, 8, 0, 0, 0))
        _, edits = self.read(text(""), a_folder("a"))
        self.assertEqual([edit[3] for edit in edits], [mark("")])


class Edits(Case):
    def test_a_write(self):
        state, edits = self.read(text("new"), was_read=True, had=[(("d", "a (1-1)"), ((4, 1),)), (("b",), ((8, 8),))])
        self.assertEqual(edits, [("write", (7, 0), PLACE, mark("new"), (2, 1), ((6, 1),))])
        row = (WAS.path, WAS.names, 7, 3, 4, mark("new"), ((7, 0),), (2, 1), False)
        self.assertEqual(shelf_rows(state.shelf), [
            shelved_row(kept(1, WAS)), (3, 7, 3, 4, 3, ("kept", row)), shelved_row(coming(0, (1, 1), "x"))])
        self.assertEqual(state.had, [(("b",), ((8, 8),)), (("d", "a (1-1)"), ((7, 0),))])
        self.assertEqual(state.know.lines()[1], a_line((2, 1), "a", text="new", inside=(1, 1), head=(7, 0)))

    def test_a_new_line_begins_if_no_head_is_replaced(self):
        state, edits = self.read(text("new"))
        self.assertEqual(edits, [("write", (7, 0), PLACE, mark("new"), (2, 1), ())])
        self.assertEqual(placed_row(WAS)[7], (2, 1))
        self.assertEqual(placed_row(state.shelf[1].purpose[1])[6:], (((7, 0),), (7, 0), False))
        # The line that is meant tells where it stands.
        self.assertEqual(state.know.lines()[2], a_line((7, 0), "a", text="new", inside=(1, 1)))

    def test_a_line_that_is_gone(self):
        _, edits = self.read(text("new"), lines=[a_line((1, 1), "D", head=(1, 1))])
        self.assertEqual(edits[0][2:5], (PLACE, mark("new"), (2, 1)))

    def test_the_place_is_made_by_what_is_placed(self):
        for placed, place in [
            ([], (None, ("d", "a"), ("d", "a"))),
            ([a_folder("d", names=("E",))], (None, ("E", "a"), ("E", "a"))),
            ([a_folder("d", names=("E", "F"), ids=((9, 9), (1, 1)))], ((9, 9), ("a",), ("E", "F", "a"))),
        ]:
            _, edits = self.read(text("new"), placed=placed)
            self.assertEqual(edits[0][2], place)

    def test_without_names_the_own_name_is_empty(self):
        was = a_file(thing=5, text="x", names=())
        state, edits = self.read(text("new"), was)
        self.assertEqual(edits, [("write", (7, 0), (None, ("",), ("",)), mark("new"), None, ())])
        self.assertEqual(state.had, [((), ((7, 0),))])
        self.assertEqual(placed_row(state.shelf[1].purpose[1])[:2], ((), ()))

    def test_a_stand_in(self):
        was = a_folder("d", "b", thing=0, seen=False)
        state, edits = self.read(text("new"), was, had=[(("d", "b"), ((4, 1),))])
        self.assertEqual(edits, [("write", (7, 0), ((1, 1), ("b",), ("D", "b")), mark("new"), None, ((4, 1),))])
        row = (("d", "b"), ("d", "b"), 7, 3, 4, mark("new"), ((7, 0),), (7, 0), False)
        self.assertEqual(shelf_rows(state.shelf)[1][5], ("kept", row))

    def test_two_found_one_after_the_other_at_one_path(self):
        state, _ = self.read(text("new"), was_read=True)
        state.shelf.append(found_there(4, WAS))
        read_found(state, 4, False, text("newer"))
        # Programs have had the first edit at the path by now.
        self.assertEqual(state.know.rest[1], ("write", (8, 0), PLACE, mark("newer"), (2, 1), ((7, 0),)))
        self.assertEqual(state.had, [(WAS.path, ((8, 0),))])


class Replaced(Case):
    """The conditions of point 63, each by itself."""

    HAD = [(WAS.path, ((4, 1),))]

    def replaced(self, answer, was=WAS, had=HAD, **more):
        _, edits = self.read(answer, was, had=had, **more)
        return edits[0][5]

    def test_none_holds(self):
        self.assertEqual(self.replaced(text()), ((4, 1),))
        self.assertEqual(self.replaced(text(), had=[]), ())
        self.assertEqual(self.replaced(text(), had=[(("d", "a"), ((4, 1),))]), ())

    def test_the_same_thing_with_the_same_cuts(self):
        self.assertEqual(self.replaced(text(thing=5, cuts=1)), ((6, 1),))
        self.assertEqual(self.replaced(text(thing=5, cuts=2)), ((4, 1),))
        self.assertEqual(self.replaced(text(thing=6, cuts=1)), ((4, 1),))
        self.assertEqual(self.replaced(text(thing=5, cuts=2), rule=Rule(cuts=False)), ((6, 1),))

    def test_it_is_the_answer_that_counts_and_not_what_was_listed(self):
        shelf = [found_there(3, WAS, thing=5, count=2, cuts=1)]
        self.assertEqual(self.replaced(text(thing=6), shelf=shelf), ((4, 1),))

    def test_programs_have_read_what_was_expected(self):
        self.assertEqual(self.replaced(text(), was_read=True), ((6, 1),))

    def test_programs_have_had_just_its_heads(self):
        self.assertEqual(self.replaced(text(), had=[(WAS.path, ((6, 1),))]), ((6, 1),))
        self.assertEqual(self.replaced(text(), had=[(WAS.path, ((6, 1), (4, 1)))]), ((6, 1), (4, 1)))

    def test_one_of_its_heads_is_of_this_device(self):
        was = a_file("a", thing=5, ids=((6, 1), (3, 0)))
        self.assertEqual(self.replaced(text(), was), ((6, 1), (3, 0)))


class NotFound(Case):
    def test_only_the_stage_changes(self):
        for shelf in [[], [kept(3, WAS)], [coming(3, (1, 1), "x")], [going_back(3, WAS)], [found_there(2, WAS)],
                      [kept(3, WAS), found_there(3, WAS)]]:
            state = a_state(LINES, placed=PLACED, shelf=shelf, stage=("reading", 3, True), had=[(("b",), ((8, 8),))])
            before = looks_of(state)
            self.assertIsNone(read_found(state, 3, True, text()))
            self.assertEqual(looks_of(state), {**before, "stage": ("idle",)})

    def test_the_first_entry_at_the_place_counts(self):
        state, edits = self.read(text("x"), shelf=[found_there(3, WAS), kept(3, WAS)])
        self.assertEqual(edits, [])
        self.assertEqual(state.shelf[0].purpose[0], "kept")
        self.assertEqual(shelved_row(state.shelf[1]), shelved_row(kept(3, WAS)))


if __name__ == "__main__":
    unittest.main()
