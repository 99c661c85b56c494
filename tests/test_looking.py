"""Points 83 to 89: how a keeper looks at what lies on its shelf."""

import unittest

from foldkeep.looking import look, lying_at, put_right
from foldkeep.state import placed_row, shelved_row
from keeps import (
    a_file, a_folder, a_state, coming, found_there, going_back, kept, lies, looks_of, mark, rows, shelf_rows,
)

WAS = a_file("a", thing=5, count=2, cuts=1, text="x", ids=((1, 1),), line=(1, 1), names=("A",))
NOTHING = ((), (), None, None)


def pending(operation, *parts):
    """The change with this operation."""
    return (operation,) + (parts or NOTHING)


class Case(unittest.TestCase):
    def look(self, state, *lying):
        """Looks, and checks what holds after each look, and that nothing that was passed in changed."""
        shelf = list(state.shelf)
        placed = list(state.placed)
        before = (shelf_rows(shelf), rows(placed))
        passed = list(lying)
        kept_as_is = {name: value for name, value in looks_of(state).items() if name not in (
            "placed", "shelf", "late", "stage", "pending")}
        self.assertIsNone(look(state, passed))
        self.assertEqual(passed, list(lying))
        self.assertEqual((shelf_rows(shelf), rows(placed)), before)
        self.assertEqual((state.stage, state.pending), (("idle",), None))
        after = looks_of(state)
        self.assertEqual({name: after[name] for name in kept_as_is}, kept_as_is)
        return state

    def check(self, state, *, placed=(), shelf=(), late=()):
        self.assertEqual(rows(state.placed), rows(placed))
        self.assertEqual(shelf_rows(state.shelf), shelf_rows(shelf))
        self.assertEqual(state.late, list(late))


class Lying(unittest.TestCase):
    def test_the_first_one_at_the_place(self):
        lying = [lies(3, 1), lies(0, 2), lies(3, 4)]
        self.assertEqual(lying_at(lying, 3), lies(3, 1))
        self.assertEqual(lying_at(lying, 0), lies(0, 2))
        self.assertIsNone(lying_at(lying, 1))
        self.assertIsNone(lying_at([], 0))


class PutRight(unittest.TestCase):
    def right(self, entry, *lying):
        shelf = [entry]
        before = shelf_rows(shelf)
        right = put_right(shelf, list(lying))
        self.assertIsNot(right, shelf)
        self.assertEqual(shelf_rows(shelf), before)
        return shelf_rows(right)

    def test_a_kept_entry_where_the_same_thing_with_the_same_count_lies(self):
        entry = kept(3, WAS, cuts=7, length=8)
        self.assertEqual(self.right(entry, lies(3, 5, count=2, cuts=9, length=4)), [shelved_row(entry)])
        entry = kept(3, WAS, thing=6, count=4)
        self.assertEqual(self.right(entry, lies(3, 6, count=4, length=1)), [shelved_row(entry)])

    def test_a_kept_entry_where_something_else_lies(self):
        entry = kept(3, WAS)
        for row in [lies(3, 5, count=3, cuts=4, length=9), lies(3, 6, count=2), lies(3, 6, kind="folder"), lies(3, 6, kind="other")]:
            _, thing, _, count, cuts, length = row
            self.assertEqual(self.right(entry, row), [(3, thing, count, cuts, length, ("found", placed_row(WAS)))])

    def test_it_is_the_entry_that_is_compared_and_not_what_was_expected(self):
        entry = kept(3, WAS, thing=6, count=4)
        self.assertEqual(self.right(entry, lies(3, 5, count=2)), [(3, 5, 2, 0, 0, ("found", placed_row(WAS)))])

    def test_other_entries_where_something_lies_keep_their_purpose(self):
        for entry in [coming(3, (1, 1), "x", thing=5, count=1, length=1, cuts=2), coming(3, (1, 1), "x"),
                      found_there(3, WAS, thing=5, count=2), going_back(3, WAS, path=("q",), tries=7, thing=5, count=2)]:
            for row in [lies(3, 5, count=2, cuts=3, length=4), lies(3, 9, kind="folder"), lies(3, 9, kind="other")]:
                _, thing, _, count, cuts, length = row
                self.assertEqual(self.right(entry, row), [(3, thing, count, cuts, length, shelved_row(entry)[5])])

    def test_a_coming_entry_where_nothing_lies(self):
        entry = coming(3, (1, 1), "x", thing=5, count=1, length=1, cuts=2)
        for lying in [[], [lies(2, 5, count=1), lies(4, 5)]]:
            self.assertEqual(self.right(entry, *lying), [(3, 0, 0, 0, 0, entry.purpose)])

    def test_other_entries_where_nothing_lies(self):
        for entry in [kept(3, WAS), found_there(3, WAS), going_back(3, WAS, tries=2)]:
            self.assertEqual(self.right(entry, lies(2, 5, count=2)), [])

    def test_of_several_that_lie_at_one_place_the_first_one_counts(self):
        entry = kept(3, WAS)
        same = lies(3, 5, count=2)
        other = lies(3, 6, length=4)
        self.assertEqual(self.right(entry, same, other), [shelved_row(entry)])
        self.assertEqual(self.right(entry, other, same), [(3, 6, 0, 0, 4, ("found", placed_row(WAS)))])

    def test_several_entries_with_one_place(self):
        shelf = [kept(3, WAS), found_there(3, WAS), coming(3, (1, 1), "x"), kept(3, WAS, thing=6)]
        right = put_right(shelf, [lies(3, 6, count=2, length=1), lies(3, 5, count=2)])
        self.assertEqual(shelf_rows(right), [
            (3, 6, 2, 0, 1, ("found", placed_row(WAS))), (3, 6, 2, 0, 1, ("found", placed_row(WAS))),
            (3, 6, 2, 0, 1, shelf[2].purpose), shelved_row(shelf[3]),
        ])

    def test_the_entries_stay_in_their_order_and_nothing_is_added(self):
        shelf = [coming(4, (1, 1), "x"), kept(2, WAS), found_there(3, WAS), kept(1, WAS)]
        right = put_right(shelf, [lies(1, 5, count=2), lies(3, 7), lies(9, 8)])
        self.assertEqual([(entry.place, entry.purpose[0]) for entry in right], [(4, "coming"), (3, "found"), (1, "kept")])
        self.assertEqual(put_right([], [lies(1, 5)]), [])


class NothingPending(Case):
    def test_the_list_alone_decides(self):
        state = a_state(shelf=[kept(3, WAS), coming(1, (1, 1), "x", thing=4)], stage=("look",), placed=[WAS], late=[("l",)])
        self.look(state, lies(3, 6, length=2))
        self.check(state, placed=[WAS], shelf=[
            found_there(3, WAS, thing=6, length=2), coming(1, (1, 1), "x")], late=[("l",)])

    def test_after_operations_that_the_list_alone_decides(self):
        for operation in [("stage", 3, "x", False), ("drop", 3, 0), ("shelf",), ("read_shelf", 3), ("read", ("a",))]:
            for lying in [[], [lies(3, 5, count=2)], [lies(3, 7)]]:
                shelf = [coming(3, (1, 1), "x"), kept(4, WAS)]
                state = a_state(shelf=shelf, stage=("look",), pending=pending(operation), placed=[WAS], late=[("l",)])
                self.look(state, *lying)
                self.check(state, placed=[WAS], shelf=put_right(shelf, lying), late=[("l",)])


class Takes(Case):
    def taken(self, *lying, placed=(WAS,), **more):
        state = a_state(
            pending=pending(("take", ("a",), 3)), placed=list(placed), next_place=4, late=[("l",)], stage=("look",), **more)
        return self.look(state, *lying)

    def test_nothing_lies_at_the_place(self):
        for lying in [[], [lies(2, 5, count=2), lies(4, 5, count=2)]]:
            self.check(self.taken(*lying), placed=[WAS], late=[("l",), ("a",)])

    def test_what_was_expected(self):
        state = self.taken(lies(3, 5, count=2, cuts=7, length=8))
        self.check(state, shelf=[kept(3, WAS, cuts=7, length=8)], late=[("l",)])

    def test_another_count(self):
        for count in [1, 3]:
            state = self.taken(lies(3, 5, count=count, length=8))
            self.check(state, shelf=[found_there(3, WAS, thing=5, count=count, length=8)], late=[("l",)])

    def test_another_thing(self):
        state = self.taken(lies(3, 6, count=2))
        self.check(state, shelf=[found_there(3, WAS, thing=6, count=2)], late=[("l",)])

    def test_another_file_that_is_placed_elsewhere_goes_back(self):
        other = a_file("b", thing=6, count=2)
        state = self.taken(lies(3, 6, count=2, cuts=1, length=4), placed=[WAS, other])
        self.check(state, placed=[other], shelf=[going_back(3, WAS, thing=6, count=2, cuts=1, length=4)], late=[("l",)])

    def test_only_a_file_with_just_this_thing_and_count_makes_it_go_back(self):
        for other in [a_file("b", thing=6, count=1), a_file("b", thing=7, count=2), a_folder("b", thing=6, count=2)]:
            state = self.taken(lies(3, 6, count=2), placed=[other, WAS])
            self.check(state, placed=[other], shelf=[found_there(3, WAS, thing=6, count=2)], late=[("l",)])

    def test_files_at_the_path_are_no_longer_placed_then(self):
        second = a_file("a", thing=6, count=2)
        state = self.taken(lies(3, 6, count=2), placed=[WAS, second])
        self.check(state, shelf=[found_there(3, WAS, thing=6, count=2)], late=[("l",)])

    def test_what_was_expected_is_kept_though_it_is_placed_elsewhere_too(self):
        other = a_file("b", thing=5, count=2)
        state = self.taken(lies(3, 5, count=2), placed=[WAS, other])
        self.check(state, placed=[other], shelf=[kept(3, WAS)], late=[("l",)])

    def test_a_folder_or_something_other_goes_back(self):
        for kind in ["folder", "other"]:
            for thing, count in [(6, 0), (5, 2)]:
                state = self.taken(lies(3, thing, kind=kind, count=count))
                self.check(state, shelf=[going_back(3, WAS, thing=thing, count=count)], late=[("l",)])

    def test_several_files_are_placed_at_the_path(self):
        second = a_file("a", thing=6, count=1, text="y")
        folder = a_folder("a", thing=8)
        below = a_file("a", "b", thing=9)
        state = self.taken(lies(3, 6, count=1), placed=[folder, second, below, WAS])
        self.check(state, placed=[folder, below], shelf=[kept(3, second)], late=[("l",)])
        state = self.taken(lies(3, 6, count=1), placed=[WAS, folder, second, below])
        self.check(state, placed=[folder, below], shelf=[found_there(3, WAS, thing=6, count=1)], late=[("l",)])

    def test_no_file_is_placed_at_the_path(self):
        stand_in = (("a",), ("a",), 0, 0, 0, None, (), None, False)
        folder = a_folder("a", thing=5, count=2, ids=((1, 1),))
        for placed in [[], [folder]]:
            state = self.taken(lies(3, 5, count=2, length=1), placed=placed)
            self.assertEqual(shelf_rows(state.shelf), [(3, 5, 2, 0, 1, ("found", stand_in))])
            self.assertEqual(rows(state.placed), rows(placed))
            state = self.taken(lies(3, 5, kind="folder"), placed=placed)
            self.assertEqual(shelf_rows(state.shelf), [(3, 5, 0, 0, 0, ("back", stand_in, ("a",), 0))])
        state = self.taken(lies(3, 0), placed=[])
        self.assertEqual(shelf_rows(state.shelf), [(3, 0, 0, 0, 0, ("found", stand_in))])
        state = self.taken(lies(3, 5, count=2), placed=[a_file("b", thing=5, count=2)])
        self.assertEqual(shelf_rows(state.shelf), [(3, 5, 2, 0, 0, ("back", stand_in, ("a",), 0))])

    def test_it_is_added_at_the_end_and_the_rest_is_put_right(self):
        shelf = [kept(1, WAS), coming(2, (1, 1), "x", thing=9), kept(0, WAS)]
        state = self.taken(lies(1, 7), lies(3, 5, count=2), lies(0, 5, count=2), shelf=shelf)
        self.check(state, shelf=[
            found_there(1, WAS, thing=7), coming(2, (1, 1), "x"), kept(0, WAS), kept(3, WAS)], late=[("l",)])

    def test_of_several_that_lie_at_one_place_the_first_one_counts(self):
        state = self.taken(lies(3, 5, count=2, length=4), lies(3, 6, kind="folder"))
        self.check(state, shelf=[kept(3, WAS, length=4)], late=[("l",)])
        state = self.taken(lies(3, 6, kind="folder"), lies(3, 5, count=2, length=4))
        self.check(state, shelf=[going_back(3, WAS, thing=6)], late=[("l",)])

    def test_an_entry_at_the_place_already(self):
        shelf = [coming(3, (1, 1), "x")]
        state = self.taken(lies(3, 5, count=2, length=4), shelf=shelf)
        self.check(state, shelf=[
            coming(3, (1, 1), "x", thing=5, count=2, length=4), kept(3, WAS, length=4)], late=[("l",)])


class Giving(Case):
    """Something is given from the place 3 to the path b."""

    PARTS = (("B",), ((8, 1),), (7, 1), mark("y"))

    def given(self, entry, *lying, parts=PARTS, **more):
        shelf = [kept(9, WAS, thing=90, count=0), *([] if entry is None else [entry]), coming(8, (1, 1), "x")]
        state = a_state(
            pending=pending(("give", 3, ("b",)), *parts), shelf=shelf, late=[("l",)], stage=("look",), next_place=10, **more)
        self.look(state, lies(9, 90), *lying)
        self.assertEqual(shelved_row(state.shelf[0]), shelved_row(shelf[0]))
        self.assertEqual(shelved_row(state.shelf[-1]), shelved_row(shelf[-1]))
        state.shelf = state.shelf[1:-1]
        return state


class Gives(Giving):
    def test_there_is_no_entry_at_the_place(self):
        for lying in [[], [lies(3, 5, count=2)]]:
            self.check(self.given(None, *lying, placed=[WAS]), placed=[WAS], late=[("l",)])

    def test_a_kept_entry_came_to_the_path(self):
        state = self.given(kept(3, WAS, cuts=4, length=1), placed=[WAS])
        new = a_file("b", names=("B",), thing=5, count=2, cuts=4, text="y", ids=((8, 1),), line=(7, 1), seen=False)
        self.check(state, placed=[WAS, new], late=[("l",)])

    def test_an_entry_with_another_purpose_came_to_the_path(self):
        new = a_file("b", names=("B",), thing=6, count=1, cuts=2, text="y", ids=((8, 1),), line=(7, 1), seen=False)
        self.check(self.given(found_there(3, WAS, thing=6, count=1, cuts=2)), placed=[new], late=[("l",)])
        state = self.given(coming(3, (1, 1), "x", thing=6, count=1, cuts=2, length=3))
        self.assertEqual(rows(state.placed), rows([new]))
        self.assertEqual(shelf_rows(state.shelf), shelf_rows([coming(3, (1, 1), "x")]))

    def test_it_is_added_even_if_something_is_placed_there(self):
        other = a_file("b", thing=1)
        new = a_file("b", names=("B",), thing=5, count=2, text="y", ids=((8, 1),), line=(7, 1), seen=False)
        self.check(self.given(kept(3, WAS), placed=[other]), placed=[other, new], late=[("l",)])

    def test_nothing_was_wanted_at_the_path_when_it_was_asked_for(self):
        state = self.given(kept(3, WAS), parts=(("b",), (), None, None))
        self.check(state, placed=[a_folder("b", thing=5, count=2, seen=False)], late=[("l",)])

    def test_a_kept_entry_still_lies_there(self):
        state = self.given(kept(3, WAS, length=1), lies(3, 5, count=2, length=4), placed=[WAS])
        self.check(state, placed=[WAS], shelf=[kept(3, WAS, length=1)], late=[("l",), ("b",)])

    def test_something_else_lies_there(self):
        state = self.given(kept(3, WAS), lies(3, 6, kind="folder"))
        self.check(state, shelf=[found_there(3, WAS, thing=6)], late=[("l",), ("b",)])
        for entry in [found_there(3, WAS), coming(3, (1, 1), "x")]:
            state = self.given(entry, lies(3, 6, count=4))
            self.assertEqual(shelf_rows(state.shelf), [(3, 6, 4, 0, 0, shelved_row(entry)[5])])
            self.assertEqual((state.placed, state.late), ([], [("l",), ("b",)]))

    def test_the_first_entry_at_the_place_counts(self):
        shelf = [found_there(3, WAS, thing=6), going_back(3, WAS, thing=7)]
        state = a_state(pending=pending(("give", 3, ("b",)), *self.PARTS), shelf=shelf)
        self.look(state)
        self.assertEqual([item.thing for item in state.placed], [6])
        self.assertEqual(state.late, [])
        state = a_state(pending=pending(("give", 3, ("b",)), *self.PARTS), shelf=shelf[::-1])
        self.look(state, lies(3, 7))
        self.check(state, shelf=[going_back(3, WAS, thing=7, tries=1), found_there(3, WAS, thing=7)])

    def test_the_first_one_that_lies_at_the_place_counts(self):
        state = self.given(going_back(3, WAS), lies(3, 7, length=1), lies(3, 6, length=2))
        self.check(state, shelf=[going_back(3, WAS, thing=7, length=1, tries=1)], late=[("l",)])


class WaysBack(Giving):
    """Something goes back from the place 3 to the path a; the target of the give does not matter."""

    OWN = a_file("a", thing=5, count=2, text="x", ids=((9, 2), (2, 0)), line=(1, 1), names=("A",))

    def test_it_was_refused(self):
        for tries, late in [(0, 0), (1, 0), (2, 0), (3, 1), (4, 0), (5, 0), (6, 0), (7, 1), (8, 0), (11, 1)]:
            with self.subTest(tries=tries):
                state = self.given(going_back(3, WAS, path=("d", "q"), tries=tries), lies(3, 6, count=1, cuts=2, length=4))
                entry = going_back(3, WAS, path=("d", "q"), tries=tries + 1, thing=6, count=1, cuts=2, length=4)
                self.check(state, shelf=[entry], late=[("l",)] + [("d", "q")] * late)

    def test_it_was_refused_where_the_path_is_late_already(self):
        state = self.given(going_back(3, WAS, tries=3), lies(3, 6))
        state.pending = pending(("give", 3, ("b",)))
        state.shelf = [going_back(3, WAS, tries=7)]
        self.look(state, lies(3, 6))
        self.assertEqual(state.late, [("l",), ("a",), ("a",)])

    def back(self, was=WAS, **more):
        return self.given(going_back(3, was, path=("q",), tries=2, thing=6, count=9), **more)

    def test_nothing_is_told_of_what_programs_have_not_had(self):
        for had in [[], [(("a",), ((2, 1),))], [(("a",), ((1, 1), (2, 1)))], [(("q",), ((1, 1),))]]:
            self.check(self.back(had=had), late=[("l",), ("a",)])

    def test_programs_have_had_its_heads(self):
        self.check(self.back(had=[(("b",), ((3, 1),)), (("a",), ((1, 1),))]), placed=[WAS], late=[("l",), ("a",)])

    def test_one_of_its_heads_is_of_this_device(self):
        self.check(self.back(self.OWN), placed=[self.OWN], late=[("l",), ("a",)])

    def test_it_has_no_heads(self):
        for was in [a_file("a", thing=5, seen=False), a_folder("a", thing=0, seen=False)]:
            for had in [[], [(("a",), ((2, 1),))]]:
                self.check(self.back(was, had=had), placed=[was], late=[("l",), ("a",)])

    def test_something_is_placed_at_the_path_already(self):
        for other in [a_file("a", thing=7), a_folder("a")]:
            state = self.back(self.OWN, placed=[other])
            beside = a_file("a", "", thing=5, count=2, text="x", ids=((9, 2), (2, 0)), line=(1, 1), names=("A", ""))
            self.check(state, placed=[other, beside], late=[("l",), ("a",)])
        state = self.back(placed=[a_file("a", thing=7)])
        self.check(state, placed=[a_file("a", thing=7)], late=[("l",), ("a",)])

    def test_something_is_placed_at_the_path_to_which_it_went(self):
        others = [a_file("b", thing=7), a_file("q", thing=8), a_file("a", "c", thing=9)]
        self.check(self.back(self.OWN, placed=others), placed=others + [self.OWN], late=[("l",), ("a",)])

    def test_whether_it_was_seen_stays(self):
        unseen = a_file("a", thing=5, ids=(), seen=False)
        seen = a_file("a", thing=5, ids=(), seen=True)
        self.assertIs(self.back(unseen).placed[0].seen, False)
        self.assertIs(self.back(seen).placed[0].seen, True)


class Swaps(Case):
    """What lies at the place 3, and what is placed at the path a, are exchanged."""

    PARTS = (("B",), ((8, 1),), (7, 1), mark("y"))
    KEPT = a_file("k", thing=6, count=3, text="y")
    NEW = a_file("a", names=("B",), thing=6, count=3, cuts=4, text="y", ids=((8, 1),), line=(7, 1), seen=False)

    def swapped(self, *lying, placed=(WAS,), shelf=None, **more):
        if shelf is None:
            shelf = [kept(3, self.KEPT, cuts=4)]
        state = a_state(
            pending=pending(("swap", 3, ("a",)), *self.PARTS), shelf=shelf, placed=list(placed), late=[("l",)], stage=("look",), **more)
        return self.look(state, *lying)

    def test_there_is_no_entry_at_the_place(self):
        for lying in [[], [lies(3, 5, count=2)]]:
            self.check(self.swapped(*lying, shelf=[]), placed=[WAS], late=[("l",)])

    def test_nothing_lies_at_the_place(self):
        self.check(self.swapped(), placed=[WAS], late=[("l",)])
        going = going_back(3, WAS, thing=6)
        self.check(self.swapped(shelf=[going]), placed=[WAS], late=[("l",)])
        entry = coming(3, (1, 1), "x", thing=6)
        self.check(self.swapped(shelf=[entry]), placed=[WAS], shelf=[coming(3, (1, 1), "x")], late=[("l",)])

    def test_the_same_thing_still_lies_there(self):
        state = self.swapped(lies(3, 6, count=3))
        self.check(state, placed=[WAS], shelf=[kept(3, self.KEPT, cuts=4)], late=[("l",), ("a",)])
        state = self.swapped(lies(3, 6, count=9))
        self.check(state, placed=[WAS], shelf=[found_there(3, self.KEPT, thing=6, count=9)], late=[("l",), ("a",)])

    def test_what_was_expected_lies_there(self):
        state = self.swapped(lies(3, 5, count=2, cuts=1, length=7))
        self.check(state, placed=[self.NEW], shelf=[kept(3, WAS, cuts=1, length=7)], late=[("l",)])

    def test_another_count(self):
        state = self.swapped(lies(3, 5, count=4, length=7))
        self.check(state, placed=[self.NEW], shelf=[found_there(3, WAS, thing=5, count=4, length=7)], late=[("l",)])

    def test_another_thing(self):
        state = self.swapped(lies(3, 7, count=2))
        self.check(state, placed=[self.NEW], shelf=[found_there(3, WAS, thing=7, count=2)], late=[("l",)])

    def test_another_file_that_is_placed_elsewhere_goes_back(self):
        other = a_file("b", thing=7, count=2)
        state = self.swapped(lies(3, 7, count=2), placed=[other, WAS])
        self.check(state, placed=[other, self.NEW], shelf=[going_back(3, WAS, thing=7, count=2)], late=[("l",)])

    def test_a_folder_or_something_other_goes_back(self):
        for kind in ["folder", "other"]:
            state = self.swapped(lies(3, 7, kind=kind))
            self.check(state, placed=[self.NEW], shelf=[going_back(3, WAS, thing=7)], late=[("l",)])

    def test_several_files_are_placed_at_the_path(self):
        second = a_file("a", thing=7, count=1)
        folder = a_folder("a", thing=8)
        state = self.swapped(lies(3, 7, count=1), placed=[second, folder, WAS])
        self.check(state, placed=[folder, self.NEW], shelf=[kept(3, second)], late=[("l",)])

    def test_no_file_is_placed_at_the_path(self):
        state = self.swapped(lies(3, 5, count=2), placed=[])
        self.assertEqual(
            shelf_rows(state.shelf), [(3, 5, 2, 0, 0, ("found", (("a",), ("a",), 0, 0, 0, None, (), None, False)))])
        self.assertEqual(rows(state.placed), rows([self.NEW]))
        self.assertEqual(state.late, [("l",)])

    def test_the_entry_is_removed_and_the_new_one_stands_at_the_end(self):
        shelf = [kept(1, WAS, thing=10), kept(3, self.KEPT, cuts=4), coming(2, (1, 1), "x")]
        state = self.swapped(lies(3, 5, count=2), lies(1, 10, count=2), shelf=shelf)
        self.check(state, placed=[self.NEW], shelf=[shelf[0], shelf[2], kept(3, WAS)], late=[("l",)])

    def test_only_the_first_entry_at_the_place_is_removed(self):
        shelf = [kept(3, self.KEPT, cuts=4), coming(3, (1, 1), "x")]
        state = self.swapped(lies(3, 5, count=2), lies(3, 6, count=3), shelf=shelf)
        self.check(state, placed=[self.NEW], shelf=[coming(3, (1, 1), "x", thing=5, count=2), kept(3, WAS)], late=[("l",)])

    def test_whatever_the_entry_was_for(self):
        for entry in [found_there(3, self.KEPT, thing=6, count=3, cuts=4), coming(3, (1, 1), "x", thing=6, count=3, cuts=4),
                      going_back(3, self.KEPT, thing=6, count=3, cuts=4)]:
            state = self.swapped(lies(3, 5, count=2), shelf=[entry])
            self.check(state, placed=[self.NEW], shelf=[kept(3, WAS)], late=[("l",)])


class Folders(Case):
    PARTS = (("D",), ((8, 1),), (7, 1), None)

    def test_a_folder_was_made(self):
        for lying in [[], [lies(3, 7)]]:
            other = a_folder("d", "e")
            state = a_state(pending=pending(("make_folder", ("d",)), *self.PARTS), placed=[other], late=[("l",)])
            self.look(state, *lying)
            new = a_folder("d", names=("D",), thing=0, ids=((8, 1),), line=(7, 1), seen=False)
            self.check(state, placed=[other, new], late=[("l",)])

    def test_the_content_of_the_change_does_not_matter(self):
        state = a_state(pending=pending(("make_folder", ("d",)), ("D",), (), None, mark("x")))
        self.look(state)
        self.check(state, placed=[a_folder("d", names=("D",), thing=0, seen=False)])

    def test_something_is_placed_at_the_path(self):
        for item in [a_folder("d"), a_file("d")]:
            state = a_state(pending=pending(("make_folder", ("d",)), *self.PARTS), placed=[item])
            self.look(state)
            self.check(state, placed=[item])

    def test_a_folder_was_removed_or_not(self):
        folder = a_folder("d", thing=3, ids=((1, 1),), line=(1, 1), count=1, cuts=2, names=("D",))
        second = a_folder("d", thing=4, ids=((2, 1), (3, 1)), line=None, seen=False)
        file = a_file("d", thing=5, ids=((4, 1),), line=(4, 1))
        other = a_folder("e", thing=6, ids=((5, 1),), line=(5, 1))
        below = a_folder("d", "e", thing=7, ids=((6, 1),), line=(6, 1))
        state = a_state(
            pending=pending(("remove_folder", ("d",))), placed=[other, folder, file, second, below], late=[("l",)],
            had=[(("d",), ((1, 1),))])
        self.look(state)
        self.check(state, placed=[
            other, a_folder("d", thing=3, count=1, cuts=2, names=("D",)), file, a_folder("d", thing=4, seen=False), below,
        ], late=[("l",), ("d",)])

    def test_no_folder_is_placed_at_the_path(self):
        state = a_state(pending=pending(("remove_folder", ("d",))), late=[("d",)])
        self.look(state)
        self.check(state, late=[("d",), ("d",)])


if __name__ == "__main__":
    unittest.main()
