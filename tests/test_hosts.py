import random
import unittest

from foldkeep.errors import NotPossible
from foldkeep.hosts import Host, host_copy
from foldkeep.names import Rule
from looks import beyond, inside, make, make_folder, opened_folder, refuses, refuses_deed, whole


def busy_host():
    """A host with something of everything."""
    host = Host(Rule(alike=("Aa",)))
    opened_folder(host, "d")
    make(host, "d", "x", text="one")
    make(host, "a", text="two", runs=True)
    make(host, "b")
    host.program(("open", inside("a")))
    host.program(("cut", inside("a")))
    host.program(("read", inside("a")))
    host.program(("make_other", beyond("o")))
    host.ask(("stage", 2, "staged", False))
    host.ask(("take", ("b",), 1))
    return host


CHANGES = [
    ("program", ("make", inside("new"), "", False)),
    ("program", ("make_folder", inside("d", "new"))),
    ("program", ("remove", inside("d", "x"))),
    ("program", ("rename", inside("a"), inside("A"))),
    ("program", ("rename", inside("d"), beyond("d"))),
    ("program", ("rename", inside("a"), inside("d", "x"))),
    ("program", ("cut", 3)),
    ("program", ("write", inside("d", "x"), 3, "!")),
    ("program", ("set_runs", inside("a"), False)),
    ("program", ("read", inside("d", "x"))),
    ("program", ("open", beyond("o"))),
    ("program", ("close", 1)),
    ("ask", ("stage", 2, " more", False)),
    ("ask", ("stage", 3, "new", False)),
    ("ask", ("take", ("a",), 5)),
    ("ask", ("give", 2, ("new",))),
    ("ask", ("swap", 1, ("d", "x"))),
    ("ask", ("make_folder", ("new",))),
    ("ask", ("drop", 2, 0)),
]


def happen(host, change):
    """Lets a change happen; returns what came of it."""
    word, what = change
    if word == "ask":
        return host.ask(what)
    try:
        return host.program(what)
    except NotPossible:
        return "not possible"


class Copies(unittest.TestCase):
    def test_a_copy_is_equal(self):
        host = busy_host()
        copy = host_copy(host)
        self.assertIsNot(copy, host)
        self.assertIsInstance(copy, Host)
        self.assertEqual(whole(copy), whole(host))
        self.assertEqual(whole(host_copy(copy)), whole(host))
        for name in ["alike", "unfit", "longest", "swaps", "reads", "cuts", "turns"]:
            self.assertEqual(getattr(copy.rule, name), getattr(host.rule, name))

    def test_what_happens_in_one_does_not_change_the_other(self):
        for change in CHANGES:
            host = busy_host()
            copy = host_copy(host)
            before = whole(host)
            self.assertNotIn(happen(copy, change), ["not possible", ("refused",)], change)
            self.assertEqual(whole(host), before, change)
            self.assertNotEqual(whole(copy), before, change)
            copy = host_copy(host)
            happen(host, change)
            self.assertEqual(whole(copy), before, change)
            self.assertNotEqual(whole(host), before, change)

    def test_a_copy_goes_on_in_the_same_way(self):
        for change in CHANGES:
            host = busy_host()
            copy = host_copy(host)
            self.assertEqual(happen(host, change), happen(copy, change))
            self.assertEqual(whole(host), whole(copy), change)

    def test_a_staged_file_stays_staged(self):
        copy = host_copy(busy_host())
        self.assertEqual(copy.ask(("stage", 2, "", False)), ("done",))
        refuses(self, copy, ("stage", 1, "", False))

    def test_what_is_open_stays_open(self):
        copy = host_copy(busy_host())
        copy.program(("make", (1, ("y",)), "", False))
        copy.program(("write", 3, 0, "y"))
        copy.program(("close", 3))
        refuses_deed(self, copy, ("write", 3, 0, "y"))

    def test_an_empty_host(self):
        copy = host_copy(Host(Rule(swaps=False)))
        self.assertEqual(whole(copy), whole(Host(Rule(swaps=False))))
        self.assertIs(copy.rule.swaps, False)


class Chances(unittest.TestCase):
    """Many deeds and operations by chance: what is refused changes nothing, and copies do the same."""

    NAMES = ["a", "A", "b", "c", "con"]

    def path(self, chance):
        return tuple(chance.choice(self.NAMES) for _ in range(chance.choice([0, 1, 1, 1, 2, 2, 3])))

    def spot(self, chance):
        base = chance.choice(["folder", "folder", "folder", "outside", chance.randrange(1, 9)])
        return (base, self.path(chance))

    def target(self, chance):
        return chance.choice([self.spot(chance), chance.randrange(1, 9)])

    def change(self, chance):
        spot, path, place = self.spot(chance), self.path(chance), chance.randrange(3)
        text, flag = chance.choice(["", "x", "xyz"]), chance.random() < 0.5
        return chance.choice([
            ("program", ("make", spot, text, flag)), ("program", ("make_folder", spot)),
            ("program", ("make_other", spot)), ("program", ("remove", spot)), ("program", ("remove_folder", spot)),
            ("program", ("rename", spot, self.spot(chance))), ("program", ("rename", spot, self.spot(chance))),
            ("program", ("cut", self.target(chance))),
            ("program", ("write", self.target(chance), chance.randrange(3), text)),
            ("program", ("set_runs", self.target(chance), flag)), ("program", ("read", self.target(chance))),
            ("program", ("open", spot)), ("program", ("close", chance.randrange(1, 9))),
            ("ask", ("stage", place, text, flag)), ("ask", ("take", path, place)), ("ask", ("give", place, path)),
            ("ask", ("swap", place, path)), ("ask", ("make_folder", path)), ("ask", ("remove_folder", path)),
            ("ask", ("drop", place, chance.randrange(2))),
        ])

    def numbers(self, host):
        rows = host.tree() + host.outside()
        for _, lying in host.shelf():
            rows = rows + lying
        return sorted(row[2] for row in rows)

    def test_by_chance(self):
        for seed in range(25):
            chance = random.Random(seed)
            host = Host(Rule(alike=("Aa",), unfit=("con",), swaps=seed % 3 > 0))
            for _ in range(60):
                change = self.change(chance)
                before, copy = whole(host), host_copy(host)
                answer = happen(host, change)
                self.assertEqual(happen(copy, change), answer)
                self.assertEqual(whole(copy), whole(host))
                if answer == ("refused",) or answer == "not possible":
                    self.assertEqual(whole(host), before)
                numbers = self.numbers(host)
                self.assertEqual(len(numbers), len(set(numbers)))
                for rows in [host.tree(), host.outside()]:
                    folded = [tuple(name.replace("A", "a") for name in row[0]) for row in rows]
                    self.assertEqual(len(folded), len(set(folded)))
                    kinds = {row[0]: row[1] for row in rows}
                    for path in kinds:
                        self.assertEqual(kinds.get(path[:-1], "folder"), "folder")
                        self.assertNotIn("con", path)


if __name__ == "__main__":
    unittest.main()
