"""Points 122 to 126: what a keeper is about, what it asks for, and how it takes answers."""

import itertools
import unittest

from foldkeep.errors import FoldError, NoSuchDevice
from foldkeep.keeper import Keeper, keeper_copy
from foldkeep.names import Rule
from foldkeep.scanning import scan_copy
from keeps import (
    LISTS, a_file, a_folder, a_keeper, a_line, coming, found_there, going_back, kept, lies, looks_of, mark, rows, scan_of,
    shelf_rows,
)

HEAD = (5, 1)
LINES = (a_line((1, 1), "a", text="abc", head=HEAD),)
PLACED = a_file("a", thing=7, count=2, text="abc", ids=(HEAD,), line=(1, 1))
WAS = a_file("w", thing=8, count=3, text="was", ids=((1, 2),))
CHANGE = (("take", ("a",), 6), (), (), None, None)

ANSWERS = {
    "refused": ("refused",), "done": ("done",), "names": ("names", []), "total": ("total", 3),
    "text": ("text", 7, 2, 0, "abc", False), "was_read": ("was_read", False), "shelf": ("shelf", []),
}


def looks(keeper):
    """All that a keeper is, as plain values."""
    told = looks_of(keeper.state)
    scan = keeper.state.scan
    if scan is not None:
        told["scan"] = vars(scan_copy(scan))
        told["scan"]["found"] = [tuple(vars(found).values()) for found in scan.found]
    return told


class New(unittest.TestCase):
    def test_a_new_keeper_is_idle_and_knows_nothing(self):
        rule = Rule(longest=50)
        keeper = Keeper(1, [0, 1], rule, ["*.tmp"])
        state = keeper.state
        self.assertEqual((state.me, state.devices, state.ignores), (1, [0, 1], ("*.tmp",)))
        self.assertIs(state.rule, rule)
        self.assertEqual((state.stage, state.scan, state.pending), (("idle",), None, None))
        self.assertEqual((state.next_place, state.next_number, state.know.clock), (0, 0, 0))
        for name in LISTS[1:]:
            self.assertEqual(getattr(state, name), [], name)
        self.assertEqual(state.know.knows, [(0, 0), (1, 0)])
        self.assertEqual(Keeper(0, [0], rule).state.ignores, ())

    def test_it_asks_for_nothing(self):
        keeper = Keeper(1, [0, 1], Rule())
        before = looks(keeper)
        self.assertIsNone(keeper.want())
        self.assertEqual(looks(keeper), before)

    def test_its_device_must_be_one_of_the_devices(self):
        for me, devices in [(2, [0, 1]), (0, []), (0, [1])]:
            with self.assertRaises(NoSuchDevice):
                Keeper(me, devices, Rule())

    def test_the_devices_are_a_new_list(self):
        devices = [0, 1]
        keeper = Keeper(0, devices, Rule())
        keeper.state.devices.append(2)
        self.assertEqual(devices, [0, 1])


class AboutSomething(unittest.TestCase):
    """Point 124."""

    def asks(self, keeper, operation, stage):
        """Checks what it asks for, that only the stage changes, and that it asks for the same again."""
        before = looks(keeper)
        self.assertEqual(keeper.want(), operation)
        after = looks(keeper)
        self.assertEqual(after, {**before, "stage": stage})
        self.assertEqual(keeper.want(), operation)
        self.assertEqual(looks(keeper), after)

    def test_look(self):
        for pending in [None, CHANGE]:
            keeper = a_keeper(LINES, stage=("look",), pending=pending, shelf=[found_there(1, WAS)], fetching=[(9, 9)])
            self.asks(keeper, ("shelf",), ("look",))

    def test_reading(self):
        keeper = a_keeper(LINES, stage=("reading", 4, True), shelf=[found_there(1, WAS)])
        self.asks(keeper, ("read_shelf", 4), ("reading", 4, True))

    def test_a_scan(self):
        keeper = a_keeper(LINES, shelf=[found_there(1, WAS)])
        scan_of(keeper.state)
        self.asks(keeper, ("total",), ("scan",))
        keeper.told(("total", 3))
        self.asks(keeper, ("names", ()), ("scan",))

    def test_asking(self):
        shelf = [kept(0, WAS), going_back(1, PLACED), found_there(2, WAS, thing=9, count=9), found_there(3, PLACED)]
        for place in [2, 3, 77]:
            self.asks(a_keeper(LINES, stage=("asking", place), shelf=shelf), ("was_read", 8, 3), ("asking", 2))

    def test_asking_about_nothing(self):
        keeper = a_keeper(LINES, stage=("asking", 2), shelf=[kept(2, WAS)], placed=[PLACED])
        before = looks(keeper)
        self.assertIsNone(keeper.want())
        self.assertEqual(looks(keeper), {**before, "stage": ("idle",)})

    def test_asking_about_nothing_and_what_follows(self):
        keeper = a_keeper(LINES, stage=("asking", 2), shelf=[kept(2, PLACED)], next_place=3)
        self.assertEqual(keeper.want(), ("give", 2, ("a",)))
        self.assertEqual((keeper.state.stage, keeper.state.pending[0]), (("look",), ("give", 2, ("a",))))

    def test_serving(self):
        requests = [(1, HEAD, 0), (2, HEAD, 1)]
        keeper = a_keeper(LINES, stage=("serving",), requests=requests, placed=[PLACED], shelf=[found_there(1, WAS)])
        self.asks(keeper, ("read", ("a",)), ("serving",))

    def test_serving_what_cannot_be_served_by_now(self):
        requests = [(1, (9, 9), 0), (2, HEAD, 1), (2, (9, 9), 0)]
        keeper = a_keeper(LINES, stage=("serving",), requests=requests, placed=[PLACED])
        # The first request is removed, then it is idle, and serves the next one.
        self.assertEqual(keeper.want(), ("read", ("a",)))
        self.assertEqual((keeper.state.stage, keeper.state.requests), (("serving",), [(2, HEAD, 1)]))

    def test_serving_what_cannot_be_served_and_what_follows(self):
        requests = [(1, (9, 9), 0), (2, HEAD, 1), (2, (9, 9), 0)]
        keeper = a_keeper(LINES, stage=("serving",), requests=requests, placed=[PLACED], shelf=[found_there(1, WAS)])
        self.assertEqual(keeper.want(), ("was_read", 8, 3))
        # Only the first one is removed, as something else comes first.
        self.assertEqual((keeper.state.stage, keeper.state.requests), (("asking", 1), requests[1:]))

    def test_serving_and_no_request(self):
        keeper = a_keeper(LINES, stage=("serving",), placed=[PLACED])
        self.assertIsNone(keeper.want())
        self.assertEqual(keeper.state.stage, ("idle",))


class Idle(unittest.TestCase):
    """Point 125: each of the five parts, alone and with others; the first one counts."""

    PARTS = ("found", "staging", "request", "change", "drop")
    OPERATIONS = {
        "found": ("was_read", 8, 3), "staging": ("drop", 2, 4), "request": ("read", ("a",)), "change": ("take", ("z",), 20),
        "drop": ("drop", 5, 6),
    }

    def keeper(self, parts, **more):
        shelf = []
        placed = [PLACED]
        if "found" in parts:
            shelf.append(found_there(1, WAS))
        if "staging" in parts:
            shelf.append(coming(2, (9, 9), "x", thing=5, count=4))
        if "change" in parts:
            placed.append(a_file("z", thing=9, text="z"))
        if "drop" in parts:
            shelf.append(kept(5, a_file("o", thing=10, text="old"), count=6))
        return a_keeper(
            LINES, shelf=shelf, placed=placed, requests=[(1, (9, 9), 0), (1, HEAD, 0)] if "request" in parts else [],
            drops=[5] if "drop" in parts else [], next_place=20, **more)

    def test_each_set_of_parts(self):
        for many in range(6):
            for parts in itertools.combinations(self.PARTS, many):
                with self.subTest(parts=parts):
                    self.check(parts)

    def check(self, parts):
        keeper = self.keeper(parts)
        before = looks(keeper)
        first = parts[0] if parts else None
        operation = self.OPERATIONS.get(first)
        self.assertEqual(keeper.want(), operation)
        after = looks(keeper)
        expected = dict(before)
        if first not in ("found", "staging"):
            # Requests that cannot be served are removed in the third part.
            expected["requests"] = [request for request in before["requests"] if request[1] == HEAD]
        if first == "found":
            expected["stage"] = ("asking", 1)
        elif first == "request":
            expected["stage"] = ("serving",)
        elif first is not None:
            expected.update(stage=("look",), pending=(operation, (), (), None, None))
        if first == "change":
            expected["next_place"] = 21
        if first == "drop":
            expected["drops"] = []
        self.assertEqual(after, expected)

    def test_it_is_idle_after_other_stages_too(self):
        for parts in [("staging", "drop"), ("request",), ("change", "drop"), ("drop",), ()]:
            keeper = self.keeper(parts, stage=("asking", 1))
            self.assertEqual(keeper.want(), self.OPERATIONS.get(parts[0] if parts else None))

    def test_a_staging_is_asked_for_as_a_change(self):
        keeper = a_keeper(LINES, shelf=[coming(4, HEAD, "abc")], pieces=[(HEAD, 0, "abc")], next_place=2)
        self.assertEqual(keeper.want(), ("stage", 4, "abc", False))
        state = keeper.state
        self.assertEqual(state.pending, (("stage", 4, "abc", False), (), (), None, None))
        self.assertEqual((state.stage, state.next_place), (("look",), 5))

    def test_a_change_is_asked_for_with_what_is_wanted(self):
        keeper = a_keeper(LINES, shelf=[kept(2, PLACED)], next_place=3)
        self.assertEqual(keeper.want(), ("give", 2, ("a",)))
        self.assertEqual(keeper.state.pending, (("give", 2, ("a",)), ("a",), (HEAD,), (1, 1), mark("abc")))

    def test_what_is_put_away_is_seen_to_first(self):
        keeper = a_keeper(
            LINES, away=[(HEAD, 0, 1), ((9, 9), 1, 1)], fetching=[HEAD, (9, 9)], asking=[((9, 9), 2, 1)],
            holding=[(1, 0, (9, 9), 4)], next_place=6, placed=[])
        self.assertIsNone(keeper.want())
        state = keeper.state
        self.assertEqual((state.away, state.fetching, state.asking, state.holding), ([(HEAD, 0, 1)], [HEAD], [], []))
        self.assertEqual(shelf_rows(state.shelf), shelf_rows([coming(6, HEAD, "abc")]))

    def test_what_is_fetched_and_here_is_wanted_at_once(self):
        keeper = a_keeper(LINES, away=[(HEAD, 0, 1)], fetching=[HEAD], shelf=[kept(2, PLACED)], next_place=3)
        self.assertEqual(keeper.want(), ("give", 2, ("a",)))
        self.assertEqual((keeper.state.away, keeper.state.fetching), ([], []))

    def test_what_is_to_come_is_seen_to_first(self):
        keeper = a_keeper(LINES, next_place=6, pieces=[((9, 9), 0, "x")])
        self.assertIsNone(keeper.want())
        state = keeper.state
        self.assertEqual((shelf_rows(state.shelf), state.pieces), (shelf_rows([coming(6, HEAD, "abc")]), []))

    def test_what_is_put_away_is_seen_to_ahead_of_what_is_to_come(self):
        # The head is not put away any more, so that its file is lacking, and comes in.
        lines = [*LINES, a_line((2, 1), "b", text="b")]
        source = kept(3, a_file("q", text="q", ids=((2, 1),)))
        keeper = a_keeper(lines, away=[((2, 1), 0, 1)], fetching=[(2, 1)], shelf=[source], placed=[PLACED], next_place=6)
        self.assertEqual(keeper.want(), ("read_shelf", 3))
        self.assertEqual([entry.purpose[0] for entry in keeper.state.shelf], ["kept", "coming"])
        self.assertEqual(keeper.state.requests, [(0, (2, 1), 0)])

    def test_both_are_seen_to_even_if_something_was_found(self):
        keeper = a_keeper(LINES, shelf=[found_there(1, WAS)], next_place=6, asking=[((9, 9), 0, 1)])
        self.assertEqual(keeper.want(), ("was_read", 8, 3))
        self.assertEqual(([entry.place for entry in keeper.state.shelf], keeper.state.asking), ([1, 6], []))

    def test_not_while_it_is_about_something(self):
        for stage in [("look",), ("reading", 1, False), ("serving",), ("asking", 1)]:
            keeper = a_keeper(
                LINES, stage=stage, shelf=[found_there(1, WAS)], requests=[(1, (7, 7), 0)], next_place=6,
                asking=[((9, 9), 0, 1)], placed=[a_file("p", text="p", ids=((7, 7),))])
            self.assertIsNotNone(keeper.want())
            self.assertEqual(([entry.place for entry in keeper.state.shelf], keeper.state.asking), ([1], [((9, 9), 0, 1)]))

    def test_all_requests_that_cannot_be_served_are_removed(self):
        requests = [(1, (9, 9), 0), (2, HEAD, 4), (0, HEAD, 0), (2, HEAD, 5), (1, (8, 8), 0)]
        keeper = a_keeper(LINES, requests=requests, placed=[PLACED])
        self.assertEqual(keeper.want(), ("read", ("a",)))
        self.assertEqual(keeper.state.requests, [(2, HEAD, 4), (2, HEAD, 5)])
        keeper = a_keeper((), requests=requests)
        self.assertIsNone(keeper.want())
        self.assertEqual((keeper.state.requests, keeper.state.stage), ([], ("idle",)))

    def test_drops_that_are_not_spare_are_forgotten(self):
        keeper = a_keeper(LINES, drops=[4, 5], shelf=[kept(4, PLACED)], placed=[PLACED])
        self.assertIsNone(keeper.want())
        self.assertEqual((keeper.state.drops, keeper.state.stage), ([], ("idle",)))


class Answers(unittest.TestCase):
    """Point 126."""

    STAGES = {
        "idle": {}, "look": {"pending": CHANGE}, "asking": {"stage": ("asking", 3)}, "reading": {"stage": ("reading", 3, True)},
    }
    EXPECTED = {"idle": None, "look": "shelf", "asking": "was_read", "reading": "text"}

    def keeper(self, kind, **more):
        more = {"stage": (kind,), **self.STAGES.get(kind, {}), **more}
        return a_keeper(
            LINES, placed=[PLACED], shelf=[kept(1, a_file("k", text="k")), found_there(3, WAS)], next_place=7,
            requests=[(1, HEAD, 1)], pieces=[((1, 1), 0, "x")], late=[("l",)], **more)

    def test_any_other_answer_changes_nothing(self):
        for stage, expected in self.EXPECTED.items():
            for kind, answer in ANSWERS.items():
                if kind != expected:
                    with self.subTest(stage=stage, answer=kind):
                        keeper = self.keeper(stage)
                        before = looks(keeper)
                        self.assertEqual(keeper.told(answer), [])
                        self.assertEqual(looks(keeper), before)

    def test_look(self):
        keeper = self.keeper("look")
        lying = [lies(1, 1), lies(3, 9, count=4, length=2), lies(5, 5)]
        self.assertEqual(keeper.told(("shelf", lying)), [])
        state = keeper.state
        self.assertEqual((state.stage, state.pending, state.late), (("idle",), None, [("l",), ("a",)]))
        self.assertEqual(shelf_rows(state.shelf), shelf_rows([
            kept(1, a_file("k", text="k")), found_there(3, WAS, thing=9, count=4, length=2)]))
        self.assertEqual(len(lying), 3)

    def test_look_and_a_take_that_was_done(self):
        keeper = self.keeper("look")
        keeper.told(("shelf", [lies(1, 1), lies(6, 7, count=2)]))
        self.assertEqual((rows(keeper.state.placed), keeper.state.shelf[-1].purpose[0]), ([], "kept"))

    def test_look_without_a_pending_change(self):
        keeper = self.keeper("look", pending=None)
        self.assertEqual(keeper.told(("shelf", [])), [])
        self.assertEqual((keeper.state.stage, keeper.state.shelf), (("idle",), []))

    def test_asking(self):
        for flag, was_read in [(True, True), (False, False), (None, True)]:
            keeper = self.keeper("asking")
            before = looks(keeper)
            self.assertEqual(keeper.told(("was_read", flag)), [])
            self.assertEqual(looks(keeper), {**before, "stage": ("reading", 3, was_read)})
            self.assertEqual(keeper.want(), ("read_shelf", 3))

    def test_reading(self):
        for was_read, replaced in [(True, ((1, 2),)), (False, ())]:
            keeper = self.keeper("reading", stage=("reading", 3, was_read))
            self.assertEqual(keeper.told(("text", 9, 4, 0, "new", False)), [])
            state = keeper.state
            self.assertEqual(state.stage, ("idle",))
            self.assertEqual([edit[5] for edit in state.know.rest], [replaced])
            self.assertEqual(shelf_rows(state.shelf)[1][:5], (3, 9, 4, 0, 3))
            self.assertEqual(state.shelf[1].purpose[0], "kept")

    def test_reading_what_is_not_found_any_more(self):
        keeper = self.keeper("reading", stage=("reading", 1, True))
        before = looks(keeper)
        self.assertEqual(keeper.told(ANSWERS["text"]), [])
        self.assertEqual(looks(keeper), {**before, "stage": ("idle",)})

    def test_serving_whatever_the_answer_is(self):
        for kind, answer in ANSWERS.items():
            keeper = self.keeper("serving")
            before = looks(keeper)
            said = keeper.told(answer)
            self.assertEqual(said, [(1, ("piece", HEAD, 1, "bc"))] if kind == "text" else [])
            self.assertEqual(looks(keeper), {**before, "stage": ("idle",), "requests": []})

    def test_serving_the_own_device(self):
        keeper = a_keeper(
            LINES, stage=("serving",), requests=[(0, HEAD, 0), (1, HEAD, 0)], shelf=[coming(2, HEAD, "abc")], placed=[PLACED])
        self.assertEqual(keeper.told(ANSWERS["text"]), [])
        self.assertEqual((keeper.state.requests, keeper.state.pieces), ([(1, HEAD, 0)], [(HEAD, 0, "abc")]))
        # Then the piece is laid on the shelf.
        self.assertEqual(keeper.want(), ("stage", 2, "abc", False))

    def test_a_scan_whose_first_total_is_refused(self):
        for kind, answer in ANSWERS.items():
            if kind != "total":
                keeper = self.keeper("idle")
                before = looks(keeper)
                keeper.wish(("scan",))
                self.assertEqual(keeper.told(answer), [])
                self.assertEqual(looks(keeper), before)
                self.assertIsNone(keeper.state.scan)

    def test_a_scan_takes_whatever_the_answer_is(self):
        for kind, answer in ANSWERS.items():
            keeper = self.keeper("idle")
            keeper.wish(("scan",))
            keeper.told(("total", 3))
            self.assertEqual(keeper.told(answer), [])
            self.assertEqual((keeper.state.stage, keeper.want()), (("scan",), ("total",)), kind)
            self.assertIs(keeper.state.scan.at_rest, kind == "names")

    def test_a_scan_that_has_nothing_left_to_ask_ends(self):
        keeper = a_keeper(LINES, placed=[PLACED], late=[("l",)], had=[(("a",), (HEAD,))])
        keeper.wish(("scan",))
        for answer in [("total", 3), ("names", []), ("total", 3)]:
            self.assertEqual(keeper.state.stage, ("scan",))
            self.assertEqual(keeper.told(answer), [])
        state = keeper.state
        self.assertEqual((state.stage, state.scan, state.placed, state.late), (("look",), None, [], []))
        self.assertEqual([edit[0] for edit in state.know.rest], ["drop"])

    def test_what_is_told_does_not_change_what_was_passed(self):
        keeper = self.keeper("look")
        answer = ("shelf", [lies(3, 9)])
        keeper.told(answer)
        keeper.state.shelf.clear()
        self.assertEqual(answer, ("shelf", [lies(3, 9)]))

    def test_no_answer_raises_an_error(self):
        for stage in ["idle", "look", "asking", "reading", "serving"]:
            for answer in ANSWERS.values():
                keeper = self.keeper(stage)
                try:
                    keeper.told(answer)
                except FoldError as error:
                    self.fail(repr(error))


class Copies(unittest.TestCase):
    def keeper(self):
        keeper = a_keeper(
            LINES, placed=[PLACED, a_folder("d")], shelf=[found_there(1, WAS), coming(2, HEAD, "abc")], late=[("l",)],
            heard=[(1, ((0, 1),))], requests=[(1, HEAD, 0)])
        keeper.wish(("scan",))
        keeper.told(("total", 3))
        keeper.told(("names", [("b", 9, "file", 0, 0), ("d", 4, "folder", 0, 0)]))
        return keeper

    def test_a_copy_is_equal(self):
        keeper = self.keeper()
        copy = keeper_copy(keeper)
        self.assertIsInstance(copy, Keeper)
        self.assertEqual(looks(copy), looks(keeper))
        self.assertIsNot(copy.state, keeper.state)
        self.assertIsNot(copy.state.scan, keeper.state.scan)

    def test_what_happens_in_a_copy_does_not_change_the_other_one(self):
        for first, second in [(0, 1), (1, 0)]:
            keeper = self.keeper()
            pair = [keeper, keeper_copy(keeper)]
            before = looks(pair[second])
            for answer in [("names", []), ("total", 3), ("text", 9, 0, 0, "b", False), ("was_read", True)]:
                pair[first].told(answer)
            pair[first].state.shelf[0].purpose[1].path = ("changed",)
            pair[first].crash()
            for name in LISTS:
                getattr(pair[first].state, name).clear()
            self.assertEqual(looks(pair[second]), before)

    def test_without_a_scan(self):
        keeper = a_keeper(LINES, stage=("look",), pending=CHANGE)
        self.assertIsNone(keeper_copy(keeper).state.scan)
        self.assertEqual(looks(keeper_copy(keeper)), looks(keeper))

    def test_both_go_on_alike(self):
        keeper = self.keeper()
        copy = keeper_copy(keeper)
        answers = [("names", []), ("total", 3), ("text", 9, 0, 0, "b", False), ("was_read", True), ("shelf", [])]
        for answer in answers:
            self.assertEqual(copy.want(), keeper.want())
            self.assertEqual(copy.told(answer), keeper.told(answer))
            self.assertEqual(looks(copy), looks(keeper))


if __name__ == "__main__":
    unittest.main()
