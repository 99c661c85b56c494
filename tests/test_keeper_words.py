"""Points 127 to 130, and the status of a keeper: words, wishes and crashes."""

import unittest

from foldkeep.errors import NoSuchDevice, NotNow
from foldkeep.keeper import Keeper
from foldkeep.knowing import Knowledge
from foldkeep.names import Rule
from foldkeep.news import news_for
from foldkeep.scanning import Scan
from foldkeep.state import placed_row, shelved_row
from keeps import (
    a_file, a_folder, a_keeper, a_line, coming, found_there, going_back, kept, looks_of, mark, scan_of, shelf_rows,
)

HEAD = (5, 1)
LINES = (a_line((1, 1), "a", text="abc", head=HEAD), a_line((2, 1), "b", text="bcd"))
PLACED = a_file("a", thing=7, count=2, text="abc", ids=(HEAD,), line=(1, 1))
WAS = a_file("w", thing=8, count=3, text="was", ids=((1, 2),))
CHANGE = (("take", ("a",), 6), (), (), None, None)
STAGES = (("look",), ("asking", 1), ("reading", 1, True), ("serving",), ("scan",))
KNOWS = ((0, 5), (1, 9), (2, 5))
WRITE = ("write", (9, 1), (None, ("n",), ("n",)), mark("new"), None, ())


def looks(keeper):
    told = looks_of(keeper.state)
    told["has_scan"] = keeper.state.scan is not None
    return told


def news(*, clock=9, base=(), upto=0, rest=(WRITE,), knows=KNOWS, since=()):
    return ("news", clock, base, upto, rest, knows, since)


def words_of_each_kind():
    """A word of each kind that changes something, with what it changes."""
    return [
        (news(), {"know", "heard"}), (("ask", HEAD, 1), {"requests"}), (("piece", (2, 1), 1, "cd"), {"pieces"}),
        (("hold", 7, HEAD), {"holding", "shelf", "next_place"}), (("held", 3), {"asking", "away"}), (("free", 2), {"holding"}),
    ]


def a_full_keeper(**more):
    return a_keeper(
        LINES, placed=[PLACED], shelf=[coming(4, (2, 1), "bcd", thing=9, length=1)], next_place=6, next_number=5,
        asking=[(HEAD, 3, 1), ((2, 1), 4, 2)], holding=[(1, 2, (2, 1), 4), (2, 2, (2, 1), 4)], heard=[(2, ((2, 2),))], **more)


class Hearing(unittest.TestCase):
    """Point 127."""

    def test_each_word_from_another_device(self):
        for stage in [("idle",), *STAGES[:-1]]:
            for word, changed in words_of_each_kind():
                with self.subTest(stage=stage, word=word[0]):
                    keeper = a_full_keeper(stage=stage)
                    before = looks(keeper)
                    self.assertEqual(keeper.hear(1, word), [])
                    after = looks(keeper)
                    self.assertEqual({name for name in after if after[name] != before[name]}, changed)

    def test_each_word_from_the_device_itself_and_from_one_that_there_is_not(self):
        for sender in [0, 3, 77]:
            for word, _ in words_of_each_kind():
                keeper = a_full_keeper()
                before = looks(keeper)
                self.assertEqual(keeper.hear(sender, word), [])
                self.assertEqual(looks(keeper), before)

    def test_while_it_scans(self):
        for word, changed in words_of_each_kind():
            keeper = a_full_keeper()
            scan_of(keeper.state)
            before = looks(keeper)
            keeper.hear(1, word)
            after = looks(keeper)
            self.assertEqual({name for name in after if after[name] != before[name]}, changed)
            # The scan remembers the heads of when it started.
            self.assertEqual(keeper.state.scan.heads, [HEAD, (2, 1)])

    def test_the_sender_counts(self):
        keeper = a_full_keeper()
        keeper.hear(2, ("ask", HEAD, 1))
        self.assertEqual(keeper.state.requests, [(2, HEAD, 1)])
        keeper.hear(2, ("free", 2))
        self.assertEqual(keeper.state.holding, [(1, 2, (2, 1), 4)])
        keeper.hear(2, ("hold", 7, (2, 1)))
        self.assertEqual(keeper.state.holding, [(1, 2, (2, 1), 4), (2, 7, (2, 1), 4)])
        keeper.hear(2, ("held", 4))
        self.assertEqual(keeper.state.away, [((2, 1), 4, 2)])

    def test_what_is_said_then(self):
        keeper = a_full_keeper()
        self.assertEqual(keeper.hear(2, ("held", 3)), [(2, ("free", 3))])
        self.assertEqual(keeper.hear(1, ("held", 0)), [(1, ("free", 0))])
        self.assertEqual(keeper.hear(1, ("held", 5)), [])

    def test_news_that_are_taken(self):
        keeper = a_full_keeper()
        self.assertEqual(keeper.hear(1, news()), [])
        know = keeper.state.know
        self.assertEqual((know.clock, know.rest, know.knows), (9, [WRITE], [(0, 9), (1, 9), (2, 5)]))
        self.assertEqual(keeper.state.heard, [(2, ((2, 2),)), (1, KNOWS)])

    def test_it_forgets_after_news_that_are_taken(self):
        keeper = a_full_keeper()
        knows = ((0, 5), (1, 9), (2, 9))
        keeper.hear(1, news(knows=knows))
        know = keeper.state.know
        self.assertEqual((know.upto, know.rest, len(know.base)), (9, [], 3))
        self.assertEqual(keeper.state.heard[-1], (1, knows))

    def test_news_that_are_refused(self):
        for refused in [
            news(knows=((0, 6), (1, 9), (2, 5))), news(knows=((0, 5), (1, 9))), news(since=((0, 6),)),
            news(clock=4294967296), news(rest=(WRITE, WRITE)), news(clock=8),
        ]:
            keeper = a_full_keeper()
            # Something that it could forget.
            keeper.state.know.rest.append(("drop", (5, 2), ()))
            keeper.state.know.upto = 4
            before = looks(keeper)
            self.assertEqual(keeper.hear(1, refused), [])
            self.assertEqual(looks(keeper), {**before, "heard": [(2, ((2, 2),)), (1, refused[5])]})

    def test_what_was_known_of_the_sender_is_replaced(self):
        keeper = a_full_keeper()
        keeper.state.heard = [(1, ((0, 1),)), (2, ((2, 2),)), (1, ((0, 2),))]
        keeper.hear(1, news())
        self.assertEqual(keeper.state.heard, [(2, ((2, 2),)), (1, KNOWS)])
        keeper.hear(2, news(knows=((0, 5), (1, 5), (2, 5)), rest=(), clock=5))
        self.assertEqual(keeper.state.heard, [(1, KNOWS), (2, ((0, 5), (1, 5), (2, 5)))])


class Speaking(unittest.TestCase):
    """Point 128."""

    def speak(self, keeper, receiver):
        before = looks(keeper)
        words = keeper.speak(receiver)
        self.assertEqual(looks(keeper), before)
        return words

    def test_the_words_in_their_order(self):
        keeper = a_full_keeper()
        keeper.state.shelf.extend([coming(5, HEAD, "abc"), kept(7, a_file("k", text="abc"))])
        keeper.state.holding.append((1, 8, HEAD, 7))
        keeper.state.placed = []
        # The kept text is a source of the first head, so only the other one is asked for.
        for receiver, said in [(1, [("hold", 3, HEAD), ("held", 8)]), (2, [("hold", 4, (2, 1))])]:
            words = self.speak(keeper, receiver)
            self.assertEqual(words[0][0], "news")
            self.assertEqual(words[1:], [("ask", (2, 1), 1), *said])

    def test_a_new_keeper(self):
        keeper = Keeper(2, [0, 2, 5], Rule())
        self.assertEqual(self.speak(keeper, 5), [("news", 0, (), 0, (), ((0, 0), (2, 0), (5, 0)), ((0, 0), (2, 0), (5, 0)))])

    def test_news_for_whom_has_said_nothing(self):
        keeper = a_full_keeper()
        keeper.hear(2, news(knows=((0, 5), (1, 9), (2, 5))))
        since = ((0, 0), (1, 0), (2, 0))
        self.assertEqual(self.speak(keeper, 1)[0], news_for(keeper.state.know, since))
        self.assertEqual(self.speak(keeper, 1)[0][6], since)
        self.assertEqual(len(self.speak(keeper, 1)[0][2]), 2)

    def test_news_for_whom_has_said_what_it_knows(self):
        keeper = a_full_keeper()
        keeper.hear(1, news())
        self.assertEqual(self.speak(keeper, 1)[0], ("news", 9, (), 0, (), ((0, 9), (1, 9), (2, 5)), KNOWS))
        self.assertEqual(self.speak(keeper, 2)[0][6], ((2, 2),))

    def test_the_devices_to_which_it_speaks(self):
        keeper = a_full_keeper()
        for receiver in [0, 3, 100]:
            before = looks(keeper)
            with self.assertRaises(NoSuchDevice):
                keeper.speak(receiver)
            self.assertEqual(looks(keeper), before)

    def test_in_each_stage(self):
        words = self.speak(a_full_keeper(), 1)
        for stage in STAGES[:-1]:
            self.assertEqual(self.speak(a_full_keeper(stage=stage), 1), words)
        keeper = a_full_keeper()
        scan_of(keeper.state)
        self.assertEqual(self.speak(keeper, 1), words)


class Wishes(unittest.TestCase):
    """Point 129."""

    def refused(self, keeper, wished):
        before = looks(keeper)
        with self.assertRaises(NotNow, msg=str(wished)):
            keeper.wish(wished)
        self.assertEqual(looks(keeper), before)

    def changed(self, keeper, wished):
        before = looks(keeper)
        self.assertIsNone(keeper.wish(wished))
        after = looks(keeper)
        return {name: after[name] for name in after if after[name] != before[name]}

    def test_a_scan(self):
        keeper = a_full_keeper(late=[("l",)])
        self.assertEqual(self.changed(keeper, ("scan",)), {"stage": ("scan",), "has_scan": True})
        scan = keeper.state.scan
        self.assertIsInstance(scan, Scan)
        self.assertEqual((scan.heads, scan.phase, scan.found), ([HEAD, (2, 1)], "total", []))
        self.assertEqual(keeper.want(), ("total",))

    def test_a_scan_while_it_is_not_idle(self):
        for stage in STAGES[:-1]:
            self.refused(a_full_keeper(stage=stage), ("scan",))
            self.refused(a_full_keeper(stage=stage, late=[("w",)]), ("scan",))
        self.refused(a_full_keeper(stage=("look",), pending=CHANGE), ("scan",))
        keeper = a_full_keeper()
        keeper.wish(("scan",))
        self.refused(keeper, ("scan",))

    def test_a_scan_while_something_goes_back(self):
        late = [("q",), ("l",), ("p",), ("q",), ("w",)]
        keeper = a_full_keeper(late=late)
        keeper.state.shelf.extend([going_back(7, WAS, path=("q",), tries=4), going_back(8, WAS, path=("p",), tries=1)])
        self.assertEqual(self.changed(keeper, ("scan",)), {"late": [("l",), ("w",)]})
        # As long as something goes back, no scan starts.
        self.assertEqual(self.changed(keeper, ("scan",)), {})
        self.assertEqual(keeper.state.stage, ("idle",))

    def test_a_scan_while_something_goes_back_and_it_is_not_idle(self):
        keeper = a_full_keeper(late=[("q",)], stage=("look",))
        keeper.state.shelf.append(going_back(7, WAS, path=("q",), tries=4))
        self.refused(keeper, ("scan",))

    def test_other_entries_do_not_keep_a_scan_from_starting(self):
        keeper = a_full_keeper()
        keeper.state.shelf.extend([found_there(7, WAS), kept(8, WAS)])
        self.assertEqual(set(self.changed(keeper, ("scan",))), {"stage", "has_scan"})

    def test_to_put_away(self):
        keeper = a_full_keeper()
        keeper.state.asking = []
        self.assertEqual(self.changed(keeper, ("put_away", ("a",), 2)), {"asking": [(HEAD, 5, 2)], "next_number": 6})
        for path, holder in [(("a",), 2), (("a",), 0), (("a",), 3), (("b",), 1)]:
            self.refused(keeper, ("put_away", path, holder))

    def test_to_fetch(self):
        keeper = a_full_keeper(away=[((2, 1), 0, 1)])
        keeper.state.asking = keeper.state.asking[:1]
        self.assertEqual(self.changed(keeper, ("fetch", ("b",))), {"fetching": [(2, 1)]})
        self.assertEqual(self.changed(keeper, ("fetch", ("a",))), {"asking": []})
        self.refused(keeper, ("fetch", ("a",)))
        self.refused(keeper, ("fetch", ("c",)))

    def test_to_trim(self):
        keeper = a_full_keeper()
        keeper.state.shelf.extend([kept(7, a_file("o", thing=20, text="1")), kept(8, a_file("o", thing=21, text="2"))])
        self.assertEqual(self.changed(keeper, ("trim", 1)), {"drops": [7]})
        self.assertEqual(self.changed(keeper, ("trim", 0)), {"drops": [7, 8]})
        self.assertEqual(self.changed(keeper, ("trim", 5)), {"drops": []})

    def test_to_restore(self):
        keeper = a_full_keeper()
        keeper.state.shelf.append(kept(7, WAS))
        changed = self.changed(keeper, ("restore", 7, ("r",)))
        self.assertEqual(set(changed), {"know", "shelf"})
        self.assertEqual(keeper.state.know.rest, [("write", (6, 0), (None, ("r",), ("r",)), mark("was"), None, ())])
        self.refused(keeper, ("restore", 7, ("s",)))
        self.refused(keeper, ("restore", 4, ("s",)))
        self.refused(keeper, ("restore", 1, ("s",)))

    def test_what_may_be_wished_in_each_stage(self):
        for stage in STAGES[:-1]:
            keeper = a_full_keeper(stage=stage)
            keeper.state.asking = []
            keeper.state.shelf.append(kept(7, WAS))
            self.assertEqual(set(self.changed(keeper, ("put_away", ("a",), 2))), {"asking", "next_number"})
            self.assertEqual(set(self.changed(keeper, ("fetch", ("a",)))), {"asking"})
            self.assertEqual(set(self.changed(keeper, ("trim", 0))), {"drops"})
            self.assertEqual(set(self.changed(keeper, ("restore", 7, ("r",)))), {"know", "shelf"})


class Crashes(unittest.TestCase):
    """Point 130."""

    def test_in_each_stage(self):
        for stage in [("idle",), *STAGES]:
            for pending, expected in [(None, ("idle",)), (CHANGE, ("look",))]:
                keeper = a_full_keeper(stage=stage, pending=pending, pieces=[((2, 1), 1, "c")], late=[("l",)])
                if stage == ("scan",):
                    scan_of(keeper.state)
                before = looks(keeper)
                self.assertIsNone(keeper.crash())
                self.assertEqual(looks(keeper), {**before, "stage": expected, "has_scan": False})

    def test_a_scan_is_lost_and_another_one_can_start(self):
        keeper = a_full_keeper()
        keeper.wish(("scan",))
        keeper.told(("total", 3))
        keeper.crash()
        keeper.wish(("scan",))
        self.assertEqual((keeper.state.scan.phase, keeper.want()), ("total", ("total",)))

    def test_what_it_asked_for_is_found_out(self):
        keeper = a_keeper(LINES[:1], placed=[PLACED, a_file("z", thing=9, text="z")], next_place=3)
        self.assertEqual(keeper.want(), ("take", ("z",), 3))
        keeper.crash()
        self.assertEqual(keeper.want(), ("shelf",))
        keeper.told(("shelf", [(3, 9, "file", 0, 0, 1)]))
        self.assertEqual(shelf_rows(keeper.state.shelf)[0], shelf_rows([kept(3, a_file("z", thing=9, text="z"), length=1)])[0])

    def test_a_request_is_served_again(self):
        keeper = a_keeper(LINES, placed=[PLACED], requests=[(1, HEAD, 0)])
        self.assertEqual(keeper.want(), ("read", ("a",)))
        keeper.crash()
        self.assertEqual(keeper.state.requests, [(1, HEAD, 0)])
        self.assertEqual(keeper.want(), ("read", ("a",)))

    def test_what_was_found_is_asked_about_again(self):
        keeper = a_keeper(LINES, placed=[PLACED], shelf=[found_there(1, WAS)])
        keeper.want()
        keeper.told(("was_read", False))
        keeper.crash()
        self.assertEqual(keeper.want(), ("was_read", 8, 3))


class Told(unittest.TestCase):
    """The status, the lines, and what is wanted."""

    KEYS = ["device", "stage", "pending", "clock", "upto", "knows", "placed", "had", "taken", "late", "shelf", "away",
            "holding", "asking", "fetching", "drops"]

    def test_a_new_keeper(self):
        status = Keeper(2, [0, 2], Rule()).status()
        self.assertEqual(list(status), self.KEYS)
        self.assertEqual(list(status.values()), [2, "idle", None, 0, 0, [(0, 0), (2, 0)]] + [[]] * 10)

    def test_each_thing(self):
        more = {"had": [(("a",), (HEAD,))], "taken": [("t",)], "late": [("l",)], "away": [((2, 1), 0, 1)],
                "fetching": [(2, 1)], "drops": [9], "pending": CHANGE, "stage": ("look",)}
        keeper = a_full_keeper(**more)
        keeper.state.shelf.append(going_back(7, WAS, path=("q",), tries=4))
        before = looks(keeper)
        status = keeper.status()
        self.assertEqual(looks(keeper), before)
        self.assertEqual(list(status), self.KEYS)
        for name in ["had", "taken", "late", "away", "fetching", "drops"]:
            self.assertEqual(status[name], more[name])
        self.assertEqual((status["device"], status["stage"], status["pending"]), (0, "look", ("take", ("a",), 6)))
        self.assertEqual((status["clock"], status["upto"], status["knows"]), (5, 5, [(0, 5), (1, 5), (2, 5)]))
        self.assertEqual(status["placed"], [placed_row(PLACED)])
        self.assertEqual(status["shelf"], [shelved_row(entry) for entry in keeper.state.shelf])
        self.assertEqual(status["shelf"][1][5], ("back", placed_row(WAS), ("q",), 4))
        self.assertEqual((status["asking"], status["holding"]), (keeper.state.asking, keeper.state.holding))

    def test_the_stages(self):
        for stage, told in [(("idle",), "idle"), (("look",), "look"), (("asking", 3), "reading"), (("scan",), "scan"),
                            (("reading", 3, True), "reading"), (("serving",), "serving")]:
            self.assertEqual(a_keeper(stage=stage).status()["stage"], told)

    def test_the_lists_are_new(self):
        keeper = a_full_keeper(late=[("l",)])
        before = looks(keeper)
        status = keeper.status()
        for name in self.KEYS:
            if isinstance(status[name], list):
                status[name].append("x")
        keeper.lines().append("x")
        keeper.wanted().append("x")
        self.assertEqual(looks(keeper), before)
        status.clear()
        self.assertEqual(list(keeper.status()), self.KEYS)

    def test_the_lines_with_the_paths_at_which_they_stand(self):
        lines = [a_line((1, 1), "d"), a_line((2, 1), "e", inside=(1, 1)), a_line((3, 1), "x", "y", text="t", inside=(2, 1))]
        self.assertEqual(a_keeper(lines).lines(), [
            ((1, 1), (1, 1), None, ("d",), None, ("d",)), ((2, 1), (2, 1), (1, 1), ("e",), None, ("d", "e")),
            ((3, 1), (3, 1), (2, 1), ("x", "y"), mark("t"), ("d", "e", "x", "y"))])
        self.assertEqual(a_keeper().lines(), [])

    def test_what_is_wanted(self):
        keeper = a_keeper(LINES, away=[((2, 1), 0, 1)])
        self.assertEqual(keeper.wanted(), [(("a",), ("a",), mark("abc"), (HEAD,), (1, 1))])

    def test_the_rest_is_told_too(self):
        keeper = a_keeper(LINES)
        keeper.state.know = Knowledge([0, 1, 2])
        keeper.state.know.write(0, (None, ("n",), ("n",)), mark("x"), None, ())
        self.assertEqual([line[5] for line in keeper.lines()], [("n",)])
        self.assertEqual((keeper.status()["clock"], keeper.status()["upto"]), (1, 0))


class Folders(unittest.TestCase):
    def test_placed_folders_are_told_too(self):
        folder = a_folder("d", ids=((3, 1),))
        self.assertEqual(a_keeper(placed=[folder]).status()["placed"], [placed_row(folder)])


if __name__ == "__main__":
    unittest.main()
