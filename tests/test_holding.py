"""Points 103 to 108: holding for other devices, and the words on it."""

import unittest

from foldkeep.holding import hear_free, hear_held, hear_hold, holds_now, is_held, say_away
from keeps import a_file, a_line, a_state, coming, found_there, going_back, kept, looks_of, mark, shelf_rows

HEAD = (5, 1)
LINES = (a_line((1, 1), "a", text="abc", head=HEAD), a_line((2, 1), "b", text="bcd"), a_line((3, 1), "d"))
WHOLE = kept(4, a_file("a", text="abc", ids=()))
HOLDING = ((1, 0, HEAD, 4), (2, 0, HEAD, 4), (1, 1, (2, 1), 5))


def changed_by(case, state, action, *arguments):
    """Calls the action; returns its answer and what it changed of the state."""
    shelf = list(state.shelf)
    before = (looks_of(state), shelf_rows(shelf))
    answer = action(state, *arguments)
    case.assertEqual(shelf_rows(shelf), before[1])
    after = looks_of(state)
    return answer, {name: after[name] for name in after if after[name] != before[0][name]}


class HoldsNow(unittest.TestCase):
    def holds(self, entry=HOLDING[0], shelf=(WHOLE,), lines=LINES):
        state = a_state(lines, shelf=shelf, holding=HOLDING)
        before = looks_of(state)
        answer = holds_now(state, entry)
        self.assertEqual(looks_of(state), before)
        return answer

    def test_a_kept_entry_with_the_content(self):
        self.assertIs(self.holds(), True)
        for ids in [(HEAD,), ((2, 1),), ((9, 9),)]:
            self.assertIs(self.holds(shelf=[kept(4, a_file("q", text="abc", ids=ids))]), True)

    def test_another_content(self):
        self.assertIs(self.holds(shelf=[kept(4, a_file("a", text="bcd", ids=(HEAD,)))]), False)

    def test_entries_that_are_not_kept(self):
        was = a_file("a", text="abc", ids=(HEAD,))
        for entry in [coming(4, HEAD, "abc", thing=9, length=3), found_there(4, was), going_back(4, was)]:
            self.assertIs(self.holds(shelf=[entry]), False)

    def test_nothing_at_the_place(self):
        self.assertIs(self.holds(shelf=[]), False)
        self.assertIs(self.holds(shelf=[kept(3, a_file("a", text="abc"))]), False)

    def test_the_first_entry_at_the_place_counts(self):
        other = coming(4, (2, 1), "bcd")
        self.assertIs(self.holds(shelf=[other, WHOLE]), False)
        self.assertIs(self.holds(shelf=[WHOLE, other]), True)
        self.assertIs(self.holds(shelf=[kept(4, a_file("a", text="x")), WHOLE]), False)

    def test_no_line_has_the_head(self):
        self.assertIs(self.holds(lines=LINES[1:]), False)
        self.assertIs(self.holds(lines=[a_line((1, 1), "a", text="abc", head=(6, 1))]), False)

    def test_a_mark_of_a_folder(self):
        was = a_file("a", text="abc")
        was.content = None
        self.assertIs(self.holds(entry=(1, 0, (3, 1), 4), shelf=[kept(4, was)]), False)
        self.assertIs(self.holds(shelf=[kept(4, was)]), False)

    def test_the_entry_need_not_be_in_the_list(self):
        self.assertIs(self.holds(entry=(7, 8, HEAD, 4)), True)


class IsHeld(unittest.TestCase):
    def test_an_entry_has_the_place(self):
        state = a_state(holding=HOLDING)
        for place, held in [(4, True), (5, True), (0, False), (1, False), (3, False)]:
            self.assertIs(is_held(state, place), held)
        self.assertIs(is_held(a_state(), 4), False)


class Hold(unittest.TestCase):
    """Point 106."""

    def hear(self, *arguments, lines=LINES, shelf=(), holding=(), **more):
        state = a_state(lines, shelf=shelf, holding=holding, next_place=9, next_number=3, **more)
        answer, changed = changed_by(self, state, hear_hold, *arguments)
        self.assertIsNone(answer)
        return changed

    def test_a_head_for_which_nothing_is_held_is_expected(self):
        changed = self.hear(1, 0, HEAD, shelf=[WHOLE])
        self.assertEqual(changed, {
            "shelf": shelf_rows([WHOLE, coming(9, HEAD, "abc")]), "next_place": 10, "holding": [(1, 0, HEAD, 9)]})

    def test_it_comes_in_already(self):
        shelf = [coming(2, (2, 1), "bcd"), coming(7, HEAD, "abc", thing=3, length=1), coming(8, HEAD, "abc")]
        self.assertEqual(self.hear(1, 0, HEAD, shelf=shelf), {"holding": [(1, 0, HEAD, 7)]})

    def test_the_number_is_known(self):
        for head in [HEAD, (2, 1)]:
            self.assertEqual(self.hear(1, 0, head, holding=HOLDING), {})
            self.assertEqual(self.hear(1, 1, head, holding=HOLDING), {})

    def test_the_number_is_one_of_another_device(self):
        changed = self.hear(2, 1, (2, 1), holding=HOLDING)
        self.assertEqual(changed, {"holding": [*HOLDING, (2, 1, (2, 1), 5)]})

    def test_no_line_has_the_head(self):
        for head in [(9, 9), (1, 1), (5, 2)]:
            self.assertEqual(self.hear(1, 7, head), {})
        self.assertEqual(self.hear(1, 7, HEAD, lines=LINES[1:], holding=HOLDING), {})

    def test_a_mark_of_a_folder(self):
        self.assertEqual(self.hear(1, 7, (3, 1)), {})
        self.assertEqual(self.hear(1, 7, (3, 1), holding=[(2, 0, (3, 1), 6)]), {})

    def test_the_head_is_held_already_at_another_number(self):
        changed = self.hear(1, 7, HEAD, holding=HOLDING)
        self.assertEqual(changed, {"holding": [*HOLDING, (1, 7, HEAD, 4)]})

    def test_the_first_entry_with_the_head_tells_the_place(self):
        holding = [(2, 0, (2, 1), 1), (2, 5, HEAD, 6), (1, 0, HEAD, 4)]
        shelf = [coming(8, HEAD, "abc")]
        self.assertEqual(self.hear(1, 7, HEAD, holding=holding, shelf=shelf), {"holding": [*holding, (1, 7, HEAD, 6)]})

    def test_what_is_kept_here_is_not_taken(self):
        changed = self.hear(1, 0, HEAD, shelf=[kept(4, a_file("a", text="abc", ids=(HEAD,)))])
        self.assertEqual((changed["holding"], changed["next_place"]), ([(1, 0, HEAD, 9)], 10))


class Held(unittest.TestCase):
    """Point 107."""

    AWAY = (((2, 1), 0, 1),)
    ASKING = ((HEAD, 1, 1), ((2, 1), 1, 2), ((2, 1), 2, 2), ((9, 9), 3, 1))

    def hear(self, device, number, *, away=AWAY, asking=ASKING, lines=LINES):
        state = a_state(lines, away=away, asking=asking, next_number=6, holding=HOLDING, fetching=[(2, 1)])
        answer, changed = changed_by(self, state, hear_held, device, number)
        self.assertIsInstance(answer, list)
        return answer, changed

    def test_it_is_put_away_with_this_number_and_holder(self):
        self.assertEqual(self.hear(1, 0), ([], {}))
        self.assertEqual(self.hear(1, 0, lines=[]), ([], {}))
        self.assertEqual(self.hear(1, 1, away=[((2, 1), 1, 1)]), ([], {}))

    def test_it_was_asked_for_and_is_a_head(self):
        self.assertEqual(self.hear(2, 2), ([], {
            "asking": [self.ASKING[0], self.ASKING[1], self.ASKING[3]], "away": [*self.AWAY, ((2, 1), 2, 2)]}))

    def test_all_entries_with_the_number_are_removed(self):
        left = [self.ASKING[2], self.ASKING[3]]
        self.assertEqual(self.hear(1, 1), ([], {"asking": left, "away": [*self.AWAY, (HEAD, 1, 1)]}))
        self.assertEqual(self.hear(2, 1), ([], {"asking": left, "away": [*self.AWAY, ((2, 1), 1, 2)]}))

    def test_it_was_asked_for_and_is_no_head_any_more(self):
        self.assertEqual(self.hear(1, 3), ([(1, ("free", 3))], {"asking": list(self.ASKING[:3])}))

    def test_a_folder_is_a_head(self):
        self.assertEqual(self.hear(1, 3, asking=[((3, 1), 3, 1)])[1]["away"], [*self.AWAY, ((3, 1), 3, 1)])

    def test_it_was_not_asked_for_any_more(self):
        for device in [1, 2]:
            for number in [4, 5]:
                self.assertEqual(self.hear(device, number), ([(device, ("free", number))], {}))

    def test_it_was_asked_for_from_another_device(self):
        self.assertEqual(self.hear(2, 3), ([(2, ("free", 3))], {}))
        self.assertEqual(self.hear(1, 2), ([(1, ("free", 2))], {}))

    def test_it_is_put_away_at_another_device(self):
        self.assertEqual(self.hear(2, 0), ([(2, ("free", 0))], {}))

    def test_a_number_that_was_never_used(self):
        for number in [6, 7, 1000]:
            self.assertEqual(self.hear(1, number), ([], {}))

    def test_a_number_that_is_asked_for_but_not_used_yet(self):
        # The order of the cases counts, not the next number.
        self.assertEqual(self.hear(1, 8, asking=[(HEAD, 8, 1)])[1], {"asking": [], "away": [*self.AWAY, (HEAD, 8, 1)]})


class Free(unittest.TestCase):
    """Point 108."""

    def hear(self, device, number):
        state = a_state(LINES, holding=[*HOLDING, (1, 0, (2, 1), 5)], shelf=[WHOLE], next_place=9)
        answer, changed = changed_by(self, state, hear_free, device, number)
        self.assertIsNone(answer)
        return changed

    def test_all_entries_of_the_device_with_the_number_are_removed(self):
        self.assertEqual(self.hear(1, 0), {"holding": [HOLDING[1], HOLDING[2]]})
        self.assertEqual(self.hear(2, 0), {"holding": [HOLDING[0], HOLDING[2], (1, 0, (2, 1), 5)]})
        self.assertEqual(self.hear(1, 1), {"holding": [HOLDING[0], HOLDING[1], (1, 0, (2, 1), 5)]})

    def test_a_number_that_is_not_known(self):
        for device, number in [(1, 2), (2, 1), (0, 0), (3, 0)]:
            self.assertEqual(self.hear(device, number), {})


class Saying(unittest.TestCase):
    """Point 104."""

    ASKING = ((HEAD, 3, 1), ((2, 1), 1, 2), ((2, 1), 0, 1))

    def said(self, device, **more):
        more = {"asking": self.ASKING, "holding": HOLDING, "shelf": [WHOLE, kept(5, a_file("q", text="bcd"))], **more}
        state = a_state(LINES, **more)
        answer, changed = changed_by(self, state, say_away, device)
        self.assertEqual(changed, {})
        return answer

    def test_what_is_asked_for_and_then_what_is_held(self):
        self.assertEqual(self.said(1), [("hold", 3, HEAD), ("hold", 0, (2, 1)), ("held", 0), ("held", 1)])
        self.assertEqual(self.said(2), [("hold", 1, (2, 1)), ("held", 0)])

    def test_only_what_lies_whole_is_held(self):
        self.assertEqual(self.said(1, shelf=[WHOLE])[2:], [("held", 0)])
        self.assertEqual(self.said(1, shelf=[coming(4, HEAD, "abc"), kept(5, a_file("q", text="bcd"))])[2:], [("held", 1)])
        self.assertEqual(self.said(1, shelf=[])[2:], [])

    def test_nothing_to_say(self):
        self.assertEqual(self.said(0), [])
        self.assertEqual(self.said(3), [])
        self.assertEqual(self.said(1, asking=[], holding=[]), [])

    def test_what_is_no_head_any_more_is_still_asked_for(self):
        self.assertEqual(self.said(1, asking=[((9, 9), 2, 1)], holding=[]), [("hold", 2, (9, 9))])

    def test_in_the_order_of_the_list(self):
        self.assertEqual(self.said(1, asking=[], holding=HOLDING[::-1]), [("held", 1), ("held", 0)])


if __name__ == "__main__":
    unittest.main()
