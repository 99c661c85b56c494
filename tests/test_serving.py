"""Points 97 to 102: requests, how they are served, and the words on them."""

import unittest

from foldkeep.marks import MOST_PIECE
from foldkeep.serving import (
    MOST_REQUESTS, hear_ask, hear_piece, misread, say_asks, served, serving_operation,
)
from foldkeep.state import Shelved
from keeps import a_file, a_line, a_state, coming, found_there, going_back, kept, looks_of, mark, shelf_rows

HEAD = (5, 1)
LINES = (a_line((1, 1), "a", text="abc", head=HEAD), a_line((2, 1), "b", text="bcd"))
PLACED = a_file("a", thing=7, count=2, text="?", ids=(HEAD,))
KEPT = kept(3, a_file("z", thing=8, count=1, text="?", ids=(HEAD,)))
OTHER_ANSWERS = [("refused",), ("done",), ("shelf", []), ("names", []), ("was_read", True), ("total", 3)]


def text(text="abc", *, thing=7, count=2, cuts=0, runs=False):
    return ("text", thing, count, cuts, text, runs)


class Operations(unittest.TestCase):
    """Point 97."""

    def operation(self, device, head=HEAD, start=0, **more):
        state = a_state(LINES, **more)
        before = looks_of(state)
        operation = serving_operation(state, (device, head, start))
        self.assertEqual(looks_of(state), before)
        return operation

    def test_the_own_device_and_a_head_that_comes_in_whole(self):
        for length in [3, 4]:
            shelf = [coming(4, HEAD, "abc", thing=9, length=length)]
            for placed in [[], [PLACED]]:
                for start in [0, 1, 3]:
                    self.assertEqual(self.operation(0, start=start, shelf=shelf, placed=placed), ("read_shelf", 4))

    def test_the_own_device_and_a_head_that_comes_in_and_is_not_whole(self):
        for entry in [coming(4, HEAD, "abc"), coming(4, HEAD, "abc", thing=9, length=2), coming(4, HEAD, "abc", length=3)]:
            self.assertEqual(self.operation(0, shelf=[entry], placed=[PLACED]), ("read", ("a",)))
            self.assertEqual(self.operation(0, shelf=[entry, KEPT]), ("read_shelf", 3))
            self.assertIsNone(self.operation(0, shelf=[entry]))

    def test_the_own_device_and_a_head_that_does_not_come_in(self):
        for shelf in [[], [KEPT], [coming(4, (2, 1), "bcd", thing=9, length=3)]]:
            self.assertIsNone(self.operation(0, shelf=shelf, placed=[PLACED]))

    def test_the_first_entry_for_the_head_counts(self):
        part = coming(4, HEAD, "abc", thing=9, length=2)
        whole = coming(5, HEAD, "abc", thing=9, length=3)
        self.assertEqual(self.operation(0, shelf=[whole, part], placed=[PLACED]), ("read_shelf", 5))
        self.assertEqual(self.operation(0, shelf=[part, whole], placed=[PLACED]), ("read", ("a",)))

    def test_another_device_and_a_source_that_is_placed(self):
        for device in [1, 2]:
            self.assertEqual(self.operation(device, placed=[PLACED], shelf=[KEPT]), ("read", ("a",)))

    def test_another_device_and_a_source_on_the_shelf(self):
        self.assertEqual(self.operation(1, shelf=[KEPT]), ("read_shelf", 3))
        self.assertEqual(self.operation(1, shelf=[KEPT], placed=[PLACED], late=[("a",)]), ("read_shelf", 3))

    def test_another_device_and_no_source(self):
        self.assertIsNone(self.operation(1))
        self.assertIsNone(self.operation(1, placed=[PLACED], late=[("a",)]))
        self.assertIsNone(self.operation(1, head=(2, 1), placed=[PLACED], shelf=[KEPT]))

    def test_for_another_device_it_does_not_matter_what_comes_in(self):
        whole = coming(4, HEAD, "abc", thing=9, length=3)
        self.assertIsNone(self.operation(1, shelf=[whole]))
        self.assertEqual(self.operation(1, shelf=[whole, KEPT]), ("read_shelf", 3))

    def test_a_head_that_is_none_any_more_can_have_a_source(self):
        item = a_file("z", thing=7, text="x", ids=((9, 9),))
        self.assertEqual(self.operation(1, head=(9, 9), placed=[item]), ("read", ("z",)))

    def test_the_own_device_need_not_be_0(self):
        state = a_state(LINES, placed=[PLACED], shelf=[coming(4, HEAD, "abc", thing=9, length=3)])
        state.me = 2
        self.assertEqual(serving_operation(state, (2, HEAD, 0)), ("read_shelf", 4))
        self.assertEqual(serving_operation(state, (0, HEAD, 0)), ("read", ("a",)))


class Case(unittest.TestCase):
    REST = ((2, (2, 1), 0), (1, HEAD, 0))

    def serve(self, request, answer, *, lines=LINES, **more):
        """Serves the request; checks that it is removed and the stage idle, and returns the state and what is said."""
        state = a_state(lines, requests=[request, *self.REST], stage=("serving",), next_place=20, **more)
        shelf = list(state.shelf)
        before = looks_of(state)
        rows_before = shelf_rows(shelf)
        said = served(state, answer)
        after = looks_of(state)
        self.assertEqual((after.pop("stage"), after.pop("requests")), (("idle",), list(self.REST)))
        self.assertIsInstance(said, list)
        self.assertEqual(shelf_rows(shelf), rows_before)
        changed = {name for name in after if after[name] != before[name]}
        return state, said, changed


class ForOthers(Case):
    """Point 98, requests of other devices."""

    def said(self, start, answer, **more):
        _, said, changed = self.serve((2, HEAD, start), answer, **more)
        self.assertEqual(changed, set())
        return said

    def test_the_piece_is_said(self):
        for start, piece in [(0, "abc"), (1, "bc"), (2, "c")]:
            self.assertEqual(self.said(start, text(), placed=[PLACED]), [(2, ("piece", HEAD, start, piece))])

    def test_a_source_on_the_shelf(self):
        answer = text("abc", thing=8, count=1)
        self.assertEqual(self.said(1, answer, shelf=[KEPT]), [(2, ("piece", HEAD, 1, "bc"))])

    def test_a_piece_has_at_most_4096_characters(self):
        long = "x" * MOST_PIECE
        self.assertEqual(self.said(0, text(long + "y"), placed=[PLACED]), [(2, ("piece", HEAD, 0, long))])
        self.assertEqual(self.said(4096, text(long + "y"), placed=[PLACED]), [(2, ("piece", HEAD, 4096, "y"))])
        self.assertEqual(self.said(1, text(long + "y"), placed=[PLACED]), [(2, ("piece", HEAD, 1, long[1:] + "y"))])

    def test_a_start_that_is_not_less_than_the_length(self):
        for start in [3, 4, 4096]:
            self.assertEqual(self.said(start, text(), placed=[PLACED]), [])
        self.assertEqual(self.said(0, text(""), placed=[PLACED]), [])

    def test_another_thing_or_count(self):
        for answer in [text(thing=8), text(count=1), text(count=3), text(thing=8, count=1)]:
            self.assertEqual(self.said(0, answer, placed=[PLACED]), [])

    def test_other_cuts_and_another_text_do_not_matter(self):
        self.assertEqual(self.said(0, text("new", cuts=4, runs=True), placed=[PLACED]), [(2, ("piece", HEAD, 0, "new"))])

    def test_there_is_no_source_any_more(self):
        self.assertEqual(self.said(0, text()), [])
        self.assertEqual(self.said(0, text(), placed=[PLACED], late=[("a",)]), [])

    def test_answers_that_are_no_text(self):
        for answer in OTHER_ANSWERS:
            self.assertEqual(self.said(0, answer, placed=[PLACED]), [])

    def test_what_comes_in_here_does_not_matter(self):
        for entry in [coming(4, HEAD, "abc", thing=7, count=2, length=3), coming(4, HEAD, "abc", thing=7, length=1)]:
            self.assertEqual(self.said(0, text(), shelf=[entry]), [])
            self.assertEqual(self.said(0, text(), shelf=[entry], placed=[PLACED]), [(2, ("piece", HEAD, 0, "abc"))])
            self.assertEqual(self.said(0, ("refused",), shelf=[entry], placed=[PLACED]), [])


class Whole(Case):
    """Point 98, requests of the own device for a head that comes in whole."""

    ENTRY = coming(4, HEAD, "abc", thing=7, count=2, cuts=1, length=3)

    def keep(self, answer, entry=ENTRY, **more):
        state, said, changed = self.serve((0, HEAD, 3), answer, shelf=[KEPT, entry, coming(5, (2, 1), "bcd")], **more)
        self.assertEqual(said, [])
        rows = shelf_rows(state.shelf)
        self.assertEqual((rows[0], rows[2]), tuple(shelf_rows([KEPT, coming(5, (2, 1), "bcd")])))
        self.assertLessEqual(changed, {"shelf"})
        return rows[1]

    def test_the_expected_text(self):
        was = ((), (), 7, 2, 1, mark("abc"), (HEAD,), None, False)
        self.assertEqual(self.keep(text("abc", cuts=1)), (4, 7, 2, 1, 3, ("kept", was)))

    def test_another_text(self):
        was = ((), (), 7, 5, 2, mark("new!"), (), None, False)
        self.assertEqual(self.keep(text("new!", count=5, cuts=2)), (4, 7, 5, 2, 4, ("kept", was)))
        was = ((), (), 7, 2, 0, mark("abc", True), (), None, False)
        self.assertEqual(self.keep(text("abc", runs=True)), (4, 7, 2, 0, 3, ("kept", was)))

    def test_the_mark_for_which_it_came_in_counts(self):
        entry = Shelved(4, 7, 0, 0, 3, ("coming", HEAD, mark("abd")))
        self.assertEqual(self.keep(text("abd"), entry)[5][1][6], (HEAD,))
        self.assertEqual(self.keep(text("abc"), entry)[5][1][6], ())

    def test_another_thing(self):
        for thing in [0, 6, 8]:
            self.assertEqual(self.keep(text("abc", thing=thing)), shelf_rows([self.ENTRY])[0])

    def test_an_answer_that_is_no_text(self):
        for answer in OTHER_ANSWERS:
            self.assertEqual(self.keep(answer, placed=[PLACED]), shelf_rows([self.ENTRY])[0])

    def test_an_empty_text(self):
        entry = coming(4, HEAD, "", thing=7)
        was = ((), (), 7, 0, 0, mark(""), (HEAD,), None, False)
        self.assertEqual(self.keep(text("", count=0), entry), (4, 7, 0, 0, 0, ("kept", was)))

    def test_a_head_that_is_none_any_more(self):
        self.assertEqual(self.keep(text("abc"), lines=[])[5][1][6], (HEAD,))

    def test_the_first_entry_for_the_head_becomes_kept(self):
        second = coming(5, HEAD, "abc", thing=7, count=2, length=3)
        state, _, _ = self.serve((0, HEAD, 3), text(), shelf=[coming(5, (2, 1), "bcd"), self.ENTRY, second])
        self.assertEqual([entry.purpose[0] for entry in state.shelf], ["coming", "kept", "coming"])

    def test_two_entries_at_one_place(self):
        other = kept(4, a_file("q", thing=9, text="q"))
        state, _, _ = self.serve((0, HEAD, 3), text(), shelf=[other, self.ENTRY])
        self.assertEqual(shelf_rows(state.shelf)[0], shelf_rows([other])[0])
        self.assertEqual(state.shelf[1].purpose[0], "kept")


class Parts(Case):
    """Point 98, requests of the own device for a head that comes in and is not whole."""

    ENTRY = coming(4, HEAD, "abcdef", thing=9, length=2)

    def take(self, start, answer, *, changes, **more):
        more = {"shelf": [self.ENTRY], "placed": [PLACED], "pieces": [((2, 1), 0, "x")], **more}
        state, said, changed = self.serve((0, HEAD, start), answer, **more)
        self.assertEqual((said, changed), ([], set(changes)))
        return state

    def test_the_piece_is_added(self):
        for start, piece in [(0, "abc"), (1, "bc"), (2, "c")]:
            state = self.take(start, text(), changes=["pieces"])
            self.assertEqual(state.pieces, [((2, 1), 0, "x"), (HEAD, start, piece)])

    def test_a_piece_has_at_most_4096_characters(self):
        state = self.take(1, text("x" * 4098), changes=["pieces"])
        self.assertEqual(state.pieces[1], (HEAD, 1, "x" * 4096))

    def test_it_is_added_even_if_one_has_come(self):
        state = self.take(2, text(), changes=["pieces"], pieces=[(HEAD, 2, "z")])
        self.assertEqual(state.pieces, [(HEAD, 2, "z"), (HEAD, 2, "c")])

    def test_an_entry_at_which_nothing_lies(self):
        for length in [0, 6]:
            state = self.take(0, text(), changes=["pieces"], shelf=[coming(4, HEAD, "abcdef", length=length)])
            self.assertEqual(state.pieces[1:], [(HEAD, 0, "abc")])

    def test_another_thing_or_count_was_read(self):
        for answer in [text(thing=6), text(count=1), text(count=3)]:
            state = self.take(0, answer, changes=["late"])
            self.assertEqual(state.late, [("a",)])

    def test_a_start_that_is_not_less_than_the_length(self):
        for start in [3, 4, 100]:
            state = self.take(start, text(), changes=["late"])
            self.assertEqual(state.late, [("a",)])

    def test_a_source_on_the_shelf(self):
        more = {"shelf": [KEPT, self.ENTRY], "placed": []}
        state = self.take(1, text("abc", thing=8, count=1), changes=["pieces"], **more)
        self.assertEqual(state.pieces[1:], [(HEAD, 1, "bc")])
        state = self.take(1, text("abcd", thing=8, count=4, cuts=2), changes=["shelf"], **more)
        was = KEPT.purpose[1]
        self.assertEqual(shelf_rows(state.shelf), shelf_rows(
            [found_there(3, was, thing=8, count=4, cuts=2, length=4), self.ENTRY]))
        self.take(1, text("abcd", thing=7, count=1), changes=[], **more)

    def test_there_is_no_source_any_more(self):
        self.take(1, text(), changes=[], placed=[])

    def test_an_answer_that_is_no_text(self):
        for answer in OTHER_ANSWERS:
            state = self.take(1, answer, changes=["late"], late=[("l",)])
            self.assertEqual(state.late, [("l",), ("a",)])
            self.take(1, answer, changes=[], placed=[], shelf=[KEPT, self.ENTRY])
            self.take(1, answer, changes=[], placed=[])

    def test_no_text_and_a_kept_entry_with_the_thing_0(self):
        was = a_file("z", thing=0, text="?", ids=(HEAD,))
        shelf = [kept(3, was, cuts=3, length=5), self.ENTRY]
        state = self.take(1, ("refused",), changes=["shelf"], placed=[], shelf=shelf)
        self.assertEqual(shelf_rows(state.shelf), shelf_rows([found_there(3, was, thing=0), self.ENTRY]))


class NotComing(Case):
    """Point 98, requests of the own device for a head that does not come in."""

    def test_a_text(self):
        for answer in [text(), text(thing=3), text("")]:
            _, said, changed = self.serve((0, HEAD, 0), answer, placed=[PLACED], shelf=[KEPT])
            self.assertEqual((said, changed), ([], set()))

    def test_an_answer_that_is_no_text(self):
        for answer in OTHER_ANSWERS:
            state, said, changed = self.serve((0, HEAD, 0), answer, placed=[PLACED], shelf=[KEPT])
            self.assertEqual((said, changed, state.late), ([], {"late"}, [("a",)]))

    def test_no_request_waits(self):
        state = a_state(LINES, stage=("serving",), placed=[PLACED])
        self.assertEqual(served(state, text()), [])
        self.assertEqual((state.stage, state.requests), (("idle",), []))


class Misread(unittest.TestCase):
    """Point 99."""

    def misread(self, *answered, **more):
        state = a_state(LINES, **more)
        shelf = list(state.shelf)
        before = (looks_of(state), shelf_rows(shelf))
        self.assertIsNone(misread(state, HEAD, *answered))
        self.assertEqual(shelf_rows(shelf), before[1])
        after = looks_of(state)
        return state, {name for name in after if after[name] != before[0][name]}

    def test_a_source_that_is_placed(self):
        for answered in [(7, 2, 0, 1), (0, 0, 0, 0)]:
            state, changed = self.misread(*answered, placed=[PLACED], shelf=[KEPT], late=[("l",)])
            self.assertEqual((state.late, changed), ([("l",), ("a",)], {"late"}))

    def test_a_source_on_the_shelf_with_the_same_thing(self):
        state, changed = self.misread(8, 5, 6, 7, shelf=[coming(1, (2, 1), "bcd"), KEPT])
        self.assertEqual(changed, {"shelf"})
        self.assertEqual(shelf_rows(state.shelf)[1], shelf_rows(
            [found_there(3, KEPT.purpose[1], thing=8, count=5, cuts=6, length=7)])[0])

    def test_a_source_on_the_shelf_with_another_thing(self):
        for thing in [0, 7, 9]:
            self.assertEqual(self.misread(thing, 1, 0, 1, shelf=[KEPT])[1], set())

    def test_the_thing_of_the_entry_counts_and_not_the_one_of_what_it_is_kept_as(self):
        entry = kept(3, KEPT.purpose[1], thing=10)
        self.assertEqual(self.misread(8, 1, 0, 1, shelf=[entry])[1], set())
        self.assertEqual(self.misread(10, 1, 0, 1, shelf=[entry])[1], {"shelf"})

    def test_the_first_entry_at_the_place_counts(self):
        for first in [found_there(3, PLACED, thing=8), coming(3, (2, 1), "bcd", thing=8), going_back(3, PLACED, thing=8)]:
            self.assertEqual(self.misread(8, 1, 0, 1, shelf=[first, KEPT])[1], set())
        first = kept(3, a_file("q", text="q"), thing=8)
        state, _ = self.misread(8, 1, 0, 1, shelf=[first, KEPT])
        self.assertEqual([entry.purpose[0] for entry in state.shelf], ["found", "kept"])

    def test_no_source(self):
        self.assertEqual(self.misread(7, 2, 0, 3)[1], set())
        self.assertEqual(self.misread(7, 2, 0, 3, placed=[PLACED], late=[("a",)])[1], set())


class Asking(unittest.TestCase):
    """Point 100."""

    def hear(self, *request, **more):
        state = a_state(LINES, **{"placed": [PLACED], **more})
        before = looks_of(state)
        self.assertIsNone(hear_ask(state, *request))
        after = looks_of(state)
        waiting = before.pop("requests")
        self.assertEqual(after.pop("requests")[:len(waiting)], waiting)
        self.assertEqual(after, before)
        return state.requests[len(waiting):]

    def test_the_request_is_added(self):
        self.assertEqual(MOST_REQUESTS, 64)
        for start in [0, 2, 3, 1000]:
            self.assertEqual(self.hear(1, HEAD, start), [(1, HEAD, start)])
        self.assertEqual(self.hear(2, HEAD, 0, placed=[], shelf=[KEPT]), [(2, HEAD, 0)])

    def test_how_many_wait(self):
        for many, added in [(0, 1), (62, 1), (63, 1), (64, 0), (65, 0), (100, 0)]:
            requests = [(0, (2, 1), start) for start in range(many)]
            self.assertEqual(len(self.hear(1, HEAD, 0, requests=requests)), added, many)

    def test_the_same_request_waits(self):
        self.assertEqual(self.hear(1, HEAD, 2, requests=[(0, HEAD, 2), (1, HEAD, 2)]), [])
        others = [(2, HEAD, 2), (1, (2, 1), 2), (1, HEAD, 1), (1, (5, 2), 2)]
        self.assertEqual(self.hear(1, HEAD, 2, requests=others), [(1, HEAD, 2)])

    def test_it_cannot_be_served_now(self):
        self.assertEqual(self.hear(1, (2, 1), 0), [])
        self.assertEqual(self.hear(1, (9, 9), 0), [])
        self.assertEqual(self.hear(1, HEAD, 0, late=[("a",)]), [])
        self.assertEqual(self.hear(1, HEAD, 0, placed=[]), [])
        self.assertEqual(self.hear(1, HEAD, 0, placed=[], shelf=[coming(4, HEAD, "abc", thing=9, length=3)]), [])


class Pieces(unittest.TestCase):
    """Point 101."""

    ENTRY = coming(4, HEAD, "x" * 5000, thing=9, length=2)

    def hear(self, head, start, piece, **more):
        state = a_state(LINES, **{"shelf": [self.ENTRY], "pieces": [((2, 1), 2, "p")], **more})
        before = looks_of(state)
        self.assertIsNone(hear_piece(state, head, start, piece))
        after = looks_of(state)
        come = before.pop("pieces")
        self.assertEqual(after.pop("pieces")[:len(come)], come)
        self.assertEqual(after, before)
        return state.pieces[len(come):]

    def test_how_long_it_is(self):
        for length, added in [(0, 0), (1, 1), (4095, 1), (4096, 1), (4097, 0), (9000, 0)]:
            piece = "y" * length
            self.assertEqual(self.hear(HEAD, 2, piece), [(HEAD, 2, piece)] * added, length)

    def test_more_than_is_missing(self):
        self.assertEqual(self.hear(HEAD, 2, "long", shelf=[coming(4, HEAD, "abc", thing=9, length=2)]), [(HEAD, 2, "long")])

    def test_the_head_does_not_come_in(self):
        self.assertEqual(self.hear((2, 1), 2, "p"), [])
        self.assertEqual(self.hear((9, 9), 0, "p"), [])
        self.assertEqual(self.hear(HEAD, 0, "p", shelf=[KEPT]), [])

    def test_it_is_whole(self):
        for length in [3, 4]:
            entry = coming(4, HEAD, "abc", thing=9, length=length)
            self.assertEqual(self.hear(HEAD, length, "p", shelf=[entry]), [])
        self.assertEqual(self.hear(HEAD, 3, "p", shelf=[coming(4, HEAD, "abc", length=3)]), [(HEAD, 3, "p")])

    def test_the_start_is_not_the_length_of_the_entry(self):
        for start in [0, 1, 3, 4]:
            self.assertEqual(self.hear(HEAD, start, "p"), [])

    def test_a_piece_has_come_already(self):
        self.assertEqual(self.hear(HEAD, 2, "p", pieces=[(HEAD, 2, "q")]), [])
        self.assertEqual(self.hear(HEAD, 2, "p", pieces=[(HEAD, 1, "q"), ((5, 2), 2, "q")]), [(HEAD, 2, "p")])

    def test_a_head_that_is_none_any_more(self):
        self.assertEqual(self.hear((9, 9), 0, "p", shelf=[coming(4, (9, 9), "abc")]), [((9, 9), 0, "p")])


class Saying(unittest.TestCase):
    """Point 102."""

    PART = coming(4, HEAD, "abc", thing=9, length=2)

    def said(self, *shelf, lines=LINES, **more):
        state = a_state(lines, shelf=shelf, **more)
        before = looks_of(state)
        words = say_asks(state)
        self.assertEqual(looks_of(state), before)
        return words

    def test_what_comes_in_is_asked_for(self):
        self.assertEqual(self.said(), [])
        self.assertEqual(self.said(self.PART), [("ask", HEAD, 2)])
        self.assertEqual(self.said(coming(4, HEAD, "abc")), [("ask", HEAD, 0)])

    def test_in_order(self):
        other = coming(2, (2, 1), "bcd")
        self.assertEqual(self.said(self.PART, other), [("ask", HEAD, 2), ("ask", (2, 1), 0)])
        self.assertEqual(self.said(other, self.PART), [("ask", (2, 1), 0), ("ask", HEAD, 2)])

    def test_it_is_no_head_any_more(self):
        self.assertEqual(self.said(self.PART, lines=LINES[1:]), [])
        self.assertEqual(self.said(coming(4, (1, 1), "abc")), [])

    def test_it_is_whole(self):
        self.assertEqual(self.said(coming(4, HEAD, "abc", thing=9, length=3)), [])
        self.assertEqual(self.said(coming(4, HEAD, "abc", length=3)), [("ask", HEAD, 3)])

    def test_its_text_is_empty(self):
        self.assertEqual(self.said(coming(4, HEAD, "")), [])
        self.assertEqual(self.said(coming(4, HEAD, "x")), [("ask", HEAD, 0)])
        # It is the length that counts, whatever the sums are.
        self.assertEqual(self.said(Shelved(4, 0, 0, 0, 0, ("coming", HEAD, (0, 5, 5, False)))), [])
        self.assertEqual(self.said(Shelved(4, 0, 0, 0, 0, ("coming", HEAD, (1, 0, 0, False)))), [("ask", HEAD, 0)])

    def test_a_piece_has_come_that_starts_at_its_length(self):
        self.assertEqual(self.said(self.PART, pieces=[(HEAD, 2, "c")]), [])
        self.assertEqual(self.said(self.PART, pieces=[(HEAD, 0, "c"), (HEAD, 3, "c"), ((2, 1), 2, "c")]), [("ask", HEAD, 2)])

    def test_it_has_a_source(self):
        self.assertEqual(self.said(self.PART, placed=[PLACED]), [])
        self.assertEqual(self.said(self.PART, KEPT), [])
        self.assertEqual(self.said(self.PART, placed=[PLACED], late=[("a",)]), [("ask", HEAD, 2)])

    def test_other_entries_are_not_asked_for(self):
        was = a_file("q", text="q", ids=((2, 1),))
        self.assertEqual(self.said(found_there(1, was), going_back(2, was), self.PART), [("ask", HEAD, 2)])

    def test_two_entries_for_one_head(self):
        self.assertEqual(
            self.said(coming(4, HEAD, "abc"), coming(5, HEAD, "abc", thing=9, length=1)),
            [("ask", HEAD, 0), ("ask", HEAD, 1)])


if __name__ == "__main__":
    unittest.main()
