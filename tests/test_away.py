"""Points 109 to 112: seeing to what is put away, and the wishes to put away and to fetch."""

import unittest

from foldkeep.away import is_away, is_here, see_to_away, wish_fetch, wish_put_away
from foldkeep.errors import NotNow
from foldkeep.names import Rule
from keeps import a_file, a_folder, a_line, a_state, coming, found_there, going_back, kept, looks_of, shelf_rows

HEAD = (5, 1)
OTHER = (2, 1)
GONE = (9, 9)
LINES = (a_line((1, 1), "a", text="abc", head=HEAD), a_line(OTHER, "b", text="bcd"), a_line((3, 1), "d"))
KEPT = kept(4, a_file("a", text="abc", ids=(HEAD,)))
CHANGE = (("take", ("a",), 3), (), (), None, None)


def changed_by(case, state, action, *arguments):
    """Calls the action, which answers nothing; returns what it changed of the state."""
    shelf = list(state.shelf)
    before = (looks_of(state), shelf_rows(shelf))
    case.assertIsNone(action(state, *arguments))
    case.assertEqual(shelf_rows(shelf), before[1])
    after = looks_of(state)
    return {name: after[name] for name in after if after[name] != before[0][name]}


def refused(case, state, action, *arguments):
    """Checks that a wish is refused and that nothing has changed then."""
    before = looks_of(state)
    with case.assertRaises(NotNow, msg=str(arguments)):
        action(state, *arguments)
    case.assertEqual(looks_of(state), before)


class Away(unittest.TestCase):
    def test_an_entry_has_the_head(self):
        state = a_state(away=[(HEAD, 0, 1), (GONE, 1, 2)])
        for head, away in [(HEAD, True), (GONE, True), (OTHER, False), ((5, 2), False)]:
            self.assertIs(is_away(state, head), away)
        self.assertIs(is_away(a_state(), HEAD), False)


class Here(unittest.TestCase):
    """Point 109."""

    def here(self, head=HEAD, lines=LINES, **more):
        state = a_state(lines, **{"shelf": [KEPT], "next_place": 9, **more})
        before = looks_of(state)
        answer = is_here(state, head)
        self.assertEqual(looks_of(state), before)
        return answer

    def test_a_kept_entry(self):
        self.assertIs(self.here(), True)
        self.assertIs(self.here(shelf=[kept(4, a_file("q", text="abc", ids=(OTHER, HEAD)))]), True)

    def test_a_change_is_pending(self):
        self.assertIs(self.here(pending=CHANGE, stage=("look",)), False)
        self.assertIs(self.here(stage=("look",)), True)

    def test_no_line_has_the_head_with_a_content(self):
        self.assertIs(self.here(lines=LINES[1:]), False)
        self.assertIs(self.here(head=GONE, shelf=[kept(4, a_file("a", text="abc", ids=(GONE,)))]), False)
        folder = a_folder("d", ids=((3, 1),))
        self.assertIs(self.here(head=(3, 1), shelf=[kept(4, folder)]), False)

    def test_another_content(self):
        self.assertIs(self.here(shelf=[kept(4, a_file("a", text="bcd", ids=(HEAD,)))]), False)

    def test_it_does_not_stand_for_the_head(self):
        for ids in [(), (OTHER,), ((1, 1),)]:
            self.assertIs(self.here(shelf=[kept(4, a_file("a", text="abc", ids=ids))]), False)

    def test_the_place_is_held(self):
        self.assertIs(self.here(holding=[(1, 0, OTHER, 4)]), False)
        self.assertIs(self.here(holding=[(1, 0, HEAD, 3)]), True)
        second = kept(5, KEPT.purpose[1])
        self.assertIs(self.here(holding=[(1, 0, OTHER, 4)], shelf=[KEPT, second]), True)

    def test_entries_that_are_not_kept(self):
        was = KEPT.purpose[1]
        for entry in [coming(4, HEAD, "abc", thing=9, length=3), found_there(4, was), going_back(4, was)]:
            self.assertIs(self.here(shelf=[entry]), False)

    def test_what_is_placed_does_not_matter(self):
        self.assertIs(self.here(shelf=[], placed=[KEPT.purpose[1]]), False)


class Seeing(unittest.TestCase):
    """Point 110."""

    def see(self, lines=LINES, again=True, **more):
        state = a_state(lines, **{"next_place": 9, **more})
        changed = changed_by(self, state, see_to_away)
        if again:
            self.assertEqual(changed_by(self, state, see_to_away), {})
        return changed

    def test_nothing_to_see_to(self):
        self.assertEqual(self.see(), {})
        away = [(HEAD, 0, 1), (OTHER, 1, 2)]
        self.assertEqual(self.see(away=away, asking=[(OTHER, 2, 1)], holding=[(1, 0, HEAD, 4)], shelf=[KEPT]), {})

    # Step 1

    def test_what_was_asked_for_and_is_no_head_any_more(self):
        asking = [(GONE, 0, 1), (HEAD, 1, 1), ((1, 1), 2, 1), (OTHER, 3, 2)]
        self.assertEqual(self.see(asking=asking), {"asking": [asking[1], asking[3]]})

    def test_what_is_held_and_is_no_head_any_more(self):
        holding = [(1, 0, GONE, 4), (1, 1, HEAD, 4), (2, 0, (1, 1), 5)]
        self.assertEqual(self.see(holding=holding, shelf=[KEPT]), {"holding": [holding[1]]})

    def test_a_folder_is_a_head(self):
        self.assertEqual(self.see(asking=[((3, 1), 0, 1)], holding=[(1, 0, (3, 1), 4)], away=[((3, 1), 1, 2)]), {})

    # Step 2

    def test_what_is_put_away_and_is_no_head_any_more(self):
        away = [(GONE, 0, 1), (HEAD, 1, 1), ((1, 1), 2, 2)]
        self.assertEqual(self.see(away=away), {"away": [away[1]]})

    def test_what_is_fetched_and_is_here(self):
        away = [(HEAD, 0, 1), (OTHER, 1, 1), (HEAD, 2, 2)]
        self.assertEqual(self.see(away=away, fetching=[HEAD], shelf=[KEPT]), {"away": [away[1]], "fetching": []})

    def test_what_is_here_and_is_not_fetched(self):
        self.assertEqual(self.see(away=[(HEAD, 0, 1)], shelf=[KEPT]), {})

    def test_what_is_fetched_and_not_here_yet(self):
        coming_in = coming(4, HEAD, "abc", thing=7, length=3)
        self.assertEqual(self.see(away=[(HEAD, 0, 1)], fetching=[HEAD], shelf=[coming_in]), {})

    # Step 3

    def test_what_is_fetched_and_is_not_put_away(self):
        away = [(HEAD, 0, 1)]
        shelf = [coming(4, HEAD, "abc")]
        self.assertEqual(self.see(away=away, fetching=[OTHER, HEAD, GONE], shelf=shelf), {"fetching": [HEAD]})
        self.assertEqual(self.see(away=[(GONE, 0, 1)], fetching=[GONE]), {"away": [], "fetching": []})

    # Step 4

    def test_what_is_fetched_is_expected(self):
        away = [(HEAD, 0, 1), (OTHER, 1, 1)]
        self.assertEqual(self.see(away=away, fetching=[OTHER, HEAD]), {
            "shelf": shelf_rows([coming(9, OTHER, "bcd"), coming(10, HEAD, "abc")]), "next_place": 11})

    def test_what_is_fetched_comes_in_already(self):
        shelf = [coming(4, HEAD, "abc", thing=7, length=1)]
        self.assertEqual(self.see(away=[(HEAD, 0, 1)], fetching=[HEAD], shelf=shelf), {})

    def test_a_folder_is_not_expected(self):
        self.assertEqual(self.see(away=[((3, 1), 0, 1)], fetching=[(3, 1)]), {})

    def test_what_is_here_is_not_expected(self):
        changed = self.see(away=[(HEAD, 0, 1)], fetching=[HEAD], shelf=[KEPT])
        self.assertEqual(changed, {"away": [], "fetching": []})

    # All conditions refer to the state before.

    def test_a_place_that_is_still_held(self):
        # What is removed from `holding` in step 1 does not make the text be here in step 2.
        more = {"holding": [(1, 0, GONE, 4)], "away": [(HEAD, 0, 1)], "fetching": [HEAD], "shelf": [KEPT]}
        changed = self.see(again=False, **more)
        self.assertEqual(changed, {
            "holding": [], "shelf": shelf_rows([KEPT, coming(9, HEAD, "abc")]), "next_place": 10})

    def test_a_pending_change(self):
        more = {"pending": CHANGE, "stage": ("look",), "away": [(HEAD, 0, 1)], "fetching": [HEAD], "shelf": [KEPT]}
        self.assertEqual(self.see(**more), {"shelf": shelf_rows([KEPT, coming(9, HEAD, "abc")]), "next_place": 10})


class PuttingAway(unittest.TestCase):
    """Point 111."""

    ITEM = a_file("a", thing=7, text="abc", ids=(HEAD, OTHER))
    PATH = ("a",)

    def state(self, **more):
        return a_state(LINES, **{"placed": [self.ITEM], "next_number": 4, **more})

    def test_all_its_heads_are_asked_for_in_order(self):
        changed = changed_by(self, self.state(), wish_put_away, self.PATH, 2)
        self.assertEqual(changed, {"asking": [(HEAD, 4, 2), (OTHER, 5, 2)], "next_number": 6})
        state = self.state(placed=[a_file("a", ids=(OTHER, HEAD))], asking=[((3, 1), 1, 1)], next_number=2)
        changed = changed_by(self, state, wish_put_away, self.PATH, 1)
        self.assertEqual(changed, {"asking": [((3, 1), 1, 1), (OTHER, 2, 1), (HEAD, 3, 1)], "next_number": 4})

    def test_only_those_that_are_left(self):
        for more in [{"away": [(HEAD, 0, 1)]}, {"asking": [(HEAD, 0, 1)]}, {"placed": [a_file("a", ids=(GONE, OTHER))]}]:
            state = self.state(**more)
            changed = changed_by(self, state, wish_put_away, self.PATH, 2)
            self.assertEqual(changed, {"asking": [*more.get("asking", []), (OTHER, 4, 2)], "next_number": 5})

    def test_not_to_the_own_device_and_not_to_one_that_there_is_not(self):
        for holder in [0, 3, 77]:
            refused(self, self.state(), wish_put_away, self.PATH, holder)

    def test_no_file_is_placed_at_the_path(self):
        for placed in [[], [a_file("b", ids=(HEAD,))], [a_folder("a", ids=(HEAD,))], [a_file("A", ids=(HEAD,))]]:
            refused(self, self.state(placed=placed), wish_put_away, self.PATH, 1)
        refused(self, self.state(), wish_put_away, (), 1)

    def test_no_head_is_left(self):
        refused(self, self.state(placed=[a_file("a", ids=())]), wish_put_away, self.PATH, 1)
        refused(self, self.state(placed=[a_file("a", ids=(GONE, (1, 1)))]), wish_put_away, self.PATH, 1)
        refused(self, self.state(away=[(HEAD, 0, 1), (OTHER, 1, 2)]), wish_put_away, self.PATH, 1)
        refused(self, self.state(asking=[(HEAD, 0, 1), (OTHER, 1, 2)]), wish_put_away, self.PATH, 1)
        refused(self, self.state(asking=[(HEAD, 0, 2)], away=[(OTHER, 1, 2)]), wish_put_away, self.PATH, 1)

    def test_the_first_file_at_the_path_counts(self):
        first = a_file("a", text="x", ids=(OTHER,))
        state = self.state(placed=[a_folder("a", ids=(HEAD,)), first, self.ITEM])
        self.assertEqual(changed_by(self, state, wish_put_away, self.PATH, 1), {"asking": [(OTHER, 4, 1)], "next_number": 5})
        refused(self, self.state(placed=[a_file("a"), self.ITEM]), wish_put_away, self.PATH, 1)

    def test_it_may_be_wished_while_something_is_pending(self):
        state = self.state(pending=CHANGE, stage=("look",))
        self.assertEqual(set(changed_by(self, state, wish_put_away, self.PATH, 1)), {"asking", "next_number"})


class Fetching(unittest.TestCase):
    """Point 112."""

    BOTH = (a_line((1, 1), "a", text="abc", head=HEAD), a_line((4, 1), "a", text="abc", head=(6, 1)), a_line((3, 1), "d"))
    PATH = ("a",)

    def state(self, lines=BOTH, **more):
        return a_state(lines, **{"next_place": 9, "next_number": 4, **more})

    def test_what_is_put_away_is_fetched(self):
        changed = changed_by(self, self.state(away=[((6, 1), 0, 1), (HEAD, 1, 2)]), wish_fetch, self.PATH)
        self.assertEqual(changed, {
            "fetching": [HEAD, (6, 1)], "next_place": 11,
            "shelf": shelf_rows([coming(9, HEAD, "abc"), coming(10, (6, 1), "abc")])})

    def test_only_those_that_are_put_away(self):
        changed = changed_by(self, self.state(away=[((6, 1), 0, 1), (OTHER, 1, 1)]), wish_fetch, self.PATH)
        self.assertEqual((changed["fetching"], changed["next_place"]), ([(6, 1)], 10))

    def test_only_those_that_are_not_fetched_already(self):
        shelf = [coming(4, (6, 1), "abc")]
        state = self.state(away=[((6, 1), 0, 1), (HEAD, 1, 2)], fetching=[(6, 1)], shelf=shelf)
        self.assertEqual(changed_by(self, state, wish_fetch, self.PATH)["fetching"], [(6, 1), HEAD])
        shelf = [coming(4, (6, 1), "abc"), coming(5, HEAD, "abc")]
        state = self.state(away=[((6, 1), 0, 1), (HEAD, 1, 2)], fetching=[(6, 1), HEAD], shelf=shelf)
        self.assertEqual(changed_by(self, state, wish_fetch, self.PATH), {})

    def test_it_sees_to_what_is_put_away(self):
        # What lies here with another head can be used at once.
        state = self.state(away=[(HEAD, 1, 2)], shelf=[KEPT], asking=[(GONE, 0, 1)])
        self.assertEqual(changed_by(self, state, wish_fetch, self.PATH), {"away": [], "asking": []})

    def test_a_wish_to_put_away_is_taken_back(self):
        asking = [(OTHER, 0, 1), ((6, 1), 1, 1), (HEAD, 2, 2), (GONE, 3, 1), (HEAD, 4, 1)]
        away = [(HEAD, 5, 1)]
        changed = changed_by(self, self.state(asking=asking, away=away), wish_fetch, self.PATH)
        self.assertEqual(changed, {"asking": [asking[0], asking[3]]})

    def test_nothing_is_shown_at_the_path(self):
        for path in [("q",), (), ("A",), ("a", "b")]:
            refused(self, self.state(away=[(HEAD, 0, 1)], asking=[((6, 1), 1, 1)]), wish_fetch, path)

    def test_nothing_is_put_away_or_asked_for(self):
        refused(self, self.state(), wish_fetch, self.PATH)
        refused(self, self.state(away=[(OTHER, 0, 1)], asking=[(OTHER, 1, 1)]), wish_fetch, self.PATH)
        refused(self, self.state(fetching=[HEAD]), wish_fetch, self.PATH)

    def test_a_path_that_is_shown_and_not_wanted(self):
        state = self.state(away=[(HEAD, 0, 1), ((6, 1), 1, 1)], placed=[])
        self.assertEqual(changed_by(self, state, wish_fetch, self.PATH)["fetching"], [HEAD, (6, 1)])

    def test_the_path_on_the_host_counts(self):
        rule = Rule(unfit=("a",))
        refused(self, self.state(rule=rule, away=[(HEAD, 0, 1)]), wish_fetch, self.PATH)
        changed = changed_by(self, self.state(rule=rule, away=[(HEAD, 0, 1)]), wish_fetch, ("a (1-1)",))
        self.assertEqual(changed["fetching"], [HEAD])
        changed = changed_by(self, self.state(taken=[("a",)], away=[(HEAD, 0, 1)]), wish_fetch, ("a (1-1)",))
        self.assertEqual(changed["fetching"], [HEAD])

    def test_a_folder(self):
        refused(self, self.state(), wish_fetch, ("d",))
        changed = changed_by(self, self.state(away=[((3, 1), 0, 1)]), wish_fetch, ("d",))
        self.assertEqual(changed, {"fetching": [(3, 1)]})

    def test_it_may_be_wished_while_something_is_pending(self):
        state = self.state(away=[(HEAD, 1, 2)], shelf=[KEPT], pending=CHANGE, stage=("look",))
        changed = changed_by(self, state, wish_fetch, self.PATH)
        self.assertEqual(set(changed), {"fetching", "shelf", "next_place"})


if __name__ == "__main__":
    unittest.main()
