"""Points 81 and 82: the next change, and how it is asked for."""

import unittest

from foldkeep.changes import ask_for, back_target, next_change
from foldkeep.names import Rule
from foldkeep.state import placed_row
from keeps import a_file, a_folder, a_line, a_state, coming, found_there, going_back, kept, looks_of, mark


class Case(unittest.TestCase):
    def check(self, state, expected):
        """Checks the next change, and that looking for it changes nothing."""
        before = looks_of(state)
        self.assertEqual(next_change(state), expected)
        self.assertEqual(looks_of(state), before)


class BackTargets(unittest.TestCase):
    def targets(self, path, many, longest=80):
        return [back_target(Rule(longest=longest), path, tries) for tries in range(many)]

    def test_in_a_folder(self):
        self.assertEqual(self.targets(("d", "e", "a.txt"), 9), [
            ("d", "e", "a.txt"), ("d", "e", "a 1.txt"), ("a.txt",), ("d", "e", "a 2.txt"), ("a 1.txt",),
            ("d", "e", "a 3.txt"), ("a 2.txt",), ("d", "e", "a 4.txt"), ("a 3.txt",),
        ])

    def test_in_the_root(self):
        self.assertEqual(self.targets(("a",), 7), [("a",), ("a 1",), ("a",), ("a 2",), ("a 1",), ("a 3",), ("a 2",)])

    def test_many_tries(self):
        rule = Rule()
        self.assertEqual(back_target(rule, ("d", "a.b.c"), 101), ("d", "a.b 51.c"))
        self.assertEqual(back_target(rule, ("d", "a.b.c"), 100), ("a.b 49.c",))

    def test_long_names_are_cut_unless_the_number_is_0(self):
        name = "n" * 60 + ".txt"
        self.assertEqual(self.targets(("d", name), 5, 48), [
            ("d", name), ("d", "n" * 42 + " 1.txt"), (name,), ("d", "n" * 42 + " 2.txt"), ("n" * 42 + " 1.txt",),
        ])

    def test_the_greatest_length_of_the_host_counts(self):
        name = "n" * 60
        self.assertEqual(back_target(Rule(longest=62), (name,), 1), (name + " 1",))
        self.assertEqual(back_target(Rule(longest=61), (name,), 1), ("n" * 59 + " 1",))


class WayBack(Case):
    """Part 1: what goes back to the folder."""

    def test_the_first_try(self):
        self.check(a_state(shelf=[going_back(3, a_file("d", "a"))]), ("give", 3, ("d", "a")))

    def test_the_path_of_the_purpose_counts(self):
        self.check(a_state(shelf=[going_back(3, a_file("d", "a"), path=("b",))]), ("give", 3, ("b",)))

    def test_further_tries(self):
        for tries, target in [
            (1, ("d", "a 1.x")), (2, ("a.x",)), (3, ("d", "a 2.x")), (4, ("a 1.x",)), (5, ("d", "a 3.x")),
            (8, ("a 3.x",)), (9, ("d", "a 5.x")),
        ]:
            self.check(a_state(shelf=[going_back(3, a_file("d", "a.x"), tries=tries)]), ("give", 3, target))

    def test_the_length_that_names_have_on_the_host(self):
        state = a_state(shelf=[going_back(3, a_file("n" * 60), tries=1)], rule=Rule(longest=50))
        self.check(state, ("give", 3, ("n" * 48 + " 1",)))

    def test_a_late_path_is_given_to_at_the_first_try_only(self):
        late = [("d", "a")]
        self.check(a_state(shelf=[going_back(3, a_file("d", "a"))], late=late), ("give", 3, ("d", "a")))
        for tries in [1, 2, 3, 4, 8]:
            self.check(a_state(shelf=[going_back(3, a_file("d", "a"), tries=tries)], late=late), None)

    def test_it_is_the_path_of_the_purpose_that_must_not_be_late(self):
        entry = going_back(3, a_file("d", "a"), path=("b",), tries=1)
        self.check(a_state(shelf=[entry], late=[("d", "a"), ("b 1",)]), ("give", 3, ("b 1",)))
        self.check(a_state(shelf=[entry], late=[("b",)]), None)

    def test_a_file_that_no_scan_has_seen_is_taken_away_first(self):
        entry = going_back(3, a_file("a"))
        item = a_file("a", seen=False)
        self.check(a_state(shelf=[entry], placed=[item], next_place=9), ("take", ("a",), 9))
        self.check(a_state(shelf=[entry], placed=[item, a_folder("a")], next_place=9), ("take", ("a",), 9))

    def test_it_is_taken_away_even_if_it_suits(self):
        state = a_state(
            [a_line((1, 1), "a", text="x")], shelf=[going_back(3, a_file("a"))], placed=[a_file("a", text="x", seen=False)],
            next_place=9)
        self.check(state, ("take", ("a",), 9))

    def test_it_is_not_taken_away_otherwise(self):
        give = ("give", 3, ("a",))
        entry = going_back(3, a_file("a"))
        unseen = a_file("a", seen=False)
        self.check(a_state(shelf=[entry], placed=[a_file("a", seen=True)]), give)
        self.check(a_state(shelf=[entry], placed=[a_folder("a", seen=False)]), give)
        self.check(a_state(shelf=[entry], placed=[a_folder("a"), unseen]), give)
        self.check(a_state(shelf=[entry], placed=[a_file("a", seen=True), unseen]), give)
        self.check(a_state(shelf=[entry], placed=[a_file("b", seen=False)], late=[("b",)]), give)
        self.check(a_state(shelf=[entry], placed=[unseen], late=[("a",)]), give)
        later = going_back(3, a_file("a"), tries=1)
        self.check(a_state(shelf=[later], placed=[unseen]), ("give", 3, ("a 1",)))

    def test_the_first_entry_for_which_there_is_something_to_do(self):
        stuck = going_back(1, a_file("a"), tries=2)
        shelf = [kept(0, a_file("k")), stuck, going_back(5, a_file("c")), going_back(2, a_file("b"))]
        self.check(a_state(shelf=shelf, late=[("a",)]), ("give", 5, ("c",)))

    def test_other_entries_do_not_go_back(self):
        was = a_file("a", ids=((1, 1),))
        self.check(a_state(shelf=[kept(0, was), found_there(1, was), coming(2, (1, 1), "x")]), None)


class WayOut(Case):
    """Part 2: placed files that do not suit."""

    def test_nothing_is_wanted_at_the_path(self):
        self.check(a_state(placed=[a_file("a")], next_place=4), ("take", ("a",), 4))
        self.check(a_state(placed=[a_file("a")], next_place=4, rule=Rule(swaps=False)), ("take", ("a",), 4))

    def test_a_folder_is_wanted_at_the_path(self):
        for lines in [[a_line((1, 1), "a")], [a_line((1, 1), "a", "b", text="y")]]:
            self.check(a_state(lines, placed=[a_file("a")], next_place=4), ("take", ("a",), 4))

    def test_a_file_is_wanted_whose_text_lies_on_the_shelf(self):
        lines = [a_line((1, 1), "a", text="new")]
        shelf = [kept(2, a_file("z", text="new", ids=((1, 1),)))]
        placed = [a_file("a", text="old")]
        self.check(a_state(lines, placed=placed, shelf=shelf, next_place=4), ("swap", 2, ("a",)))
        state = a_state(lines, placed=placed, shelf=shelf, next_place=4, rule=Rule(swaps=False))
        self.check(state, ("take", ("a",), 4))

    def test_a_file_is_wanted_whose_text_does_not_lie_on_the_shelf(self):
        lines = [a_line((1, 1), "a", text="new")]
        placed = [a_file("a", text="old")]
        other = kept(2, a_file("a", text="old", ids=((1, 1),)))
        for swaps in [True, False]:
            for shelf in [[], [other], [coming(2, (1, 1), "new", thing=1, length=3)]]:
                self.check(a_state(lines, placed=placed, shelf=shelf, rule=Rule(swaps=swaps)), None)

    def test_the_heads_must_be_served(self):
        lines = [a_line((1, 1), "a", text="new"), a_line((2, 1), "d", "b", text="new")]
        placed = [a_folder("d"), a_file("d", "b", text="new"), a_file("a", text="old")]
        state = a_state(lines, placed=placed, shelf=[kept(2, a_file("z", text="new", ids=((2, 1),)))])
        self.check(state, None)

    def test_a_place_that_is_held_for_another_device(self):
        lines = [a_line((1, 1), "a", text="new")]
        shelf = [kept(2, a_file("z", text="new", ids=((1, 1),)))]
        self.check(a_state(lines, placed=[a_file("a")], shelf=shelf, holding=[(1, 0, (1, 1), 2)]), None)

    def test_a_file_that_suits_stays(self):
        self.check(a_state([a_line((1, 1), "a", text="x")], placed=[a_file("a", text="x")]), None)

    def test_a_path_that_waits(self):
        self.check(a_state(placed=[a_file("a")], late=[("a",)]), None)
        self.check(a_state(placed=[a_file("a", "")]), None)
        self.check(a_state(placed=[a_file("", "a")]), None)
        self.check(a_state(placed=[a_file("a"), a_file("b")], late=[("a",)]), ("take", ("b",), 0))

    def test_a_file_that_is_put_away(self):
        state = a_state([a_line((1, 1), "a", text="x")], placed=[a_file("a", text="x")], away=[((1, 1), 0, 1)])
        self.check(state, ("take", ("a",), 0))

    def test_the_first_one_for_which_there_is_something_to_do(self):
        lines = [a_line((1, 1), "a", text="new")]
        placed = [a_file("a", text="old"), a_file("c"), a_file("b")]
        self.check(a_state(lines, placed=placed), ("take", ("c",), 0))

    def test_several_entries_at_one_path(self):
        lines = [a_line((1, 1), "a", text="x")]
        placed = [a_file("a", text="x", thing=1), a_file("a", text="y", thing=2)]
        # The second one does not suit, though the first one does.
        self.check(a_state(lines, placed=placed), None)
        state = a_state(lines, placed=placed, shelf=[kept(2, a_file("a", text="x", ids=((1, 1),)))])
        self.check(state, ("swap", 2, ("a",)))
        self.check(a_state(placed=[a_folder("a"), a_file("a")]), ("take", ("a",), 0))

    def test_a_file_in_a_folder_that_is_not_placed(self):
        self.check(a_state(placed=[a_file("d", "e", "a")]), ("take", ("d", "e", "a"), 0))


class Removals(Case):
    """Part 3: placed folders that do not suit."""

    def test_an_empty_folder(self):
        self.check(a_state(placed=[a_folder("d", ids=((9, 9),))]), ("remove_folder", ("d",)))

    def test_a_folder_that_suits(self):
        for lines in [[a_line((1, 1), "d")], [a_line((1, 1), "d", "a", text="x")]]:
            self.check(a_state(lines, placed=[a_folder("d")]), None)

    def test_where_a_file_is_wanted(self):
        self.check(a_state([a_line((1, 1), "d", text="x")], placed=[a_folder("d")]), ("remove_folder", ("d",)))

    def test_a_path_that_waits(self):
        self.check(a_state(placed=[a_folder("d")], late=[("d",)]), None)
        self.check(a_state(placed=[a_folder("d", "")]), None)
        self.check(a_state(placed=[a_folder("d"), a_folder("e")], late=[("d",)]), ("remove_folder", ("e",)))

    def test_folders_below_that_do_not_wait_go_first(self):
        placed = [a_folder("d"), a_folder("d", "e"), a_folder("d", "e", "f"), a_folder("d", "g")]
        self.check(a_state(placed=placed), ("remove_folder", ("d", "e", "f")))
        state = a_state(placed=placed, late=[("d", "e", "f")])
        self.check(state, ("remove_folder", ("d", "e")))
        state = a_state(placed=placed, late=[("d", "e", "f"), ("d", "e")])
        self.check(state, ("remove_folder", ("d", "g")))
        state = a_state(placed=placed, late=[("d", "g"), ("d", "e", "f"), ("d", "e")])
        self.check(state, ("remove_folder", ("d",)))

    def test_a_folder_below_waits_by_an_empty_name(self):
        self.check(a_state(placed=[a_folder("d"), a_folder("d", "")]), ("remove_folder", ("d",)))

    def test_a_folder_deep_below_that_does_not_wait(self):
        placed = [a_folder("d"), a_folder("d", "e"), a_folder("d", "e", "f")]
        self.check(a_state(placed=placed, late=[("d", "e")]), ("remove_folder", ("d", "e", "f")))
        self.check(a_state(placed=[placed[0], placed[2]]), ("remove_folder", ("d", "e", "f")))

    def test_a_folder_below_that_suits(self):
        # What is wanted there stands below another line, so that the folder above suits, too.
        state = a_state([a_line((1, 1), "d", "e")], placed=[a_folder("d"), a_folder("d", "e")])
        self.check(state, None)
        # The folder above is shown under another name, as its own one is taken.
        state = a_state([a_line((1, 1), "d", "e")], placed=[a_folder("d"), a_folder("d (1-1)"), a_folder("d (1-1)", "e")],
                        taken=[("d",)])
        self.check(state, ("remove_folder", ("d",)))

    def test_files_below(self):
        for path in [("d", "a"), ("d", "e", "a")]:
            self.check(a_state(placed=[a_folder("d"), a_file(*path)], late=[path]), None)

    def test_a_file_below_that_suits(self):
        lines = [a_line((1, 1), "z", text="x")]
        placed = [a_folder("d"), a_file("d", "a", text="x"), a_file("z", text="x")]
        self.check(a_state(lines, placed=placed, late=[("d", "a")]), None)

    def test_what_stands_beside_it_does_not_count(self):
        placed = [a_file("a"), a_file("dd", "a"), a_folder("d")]
        self.check(a_state(placed=placed, late=[("a",), ("dd", "a")]), ("remove_folder", ("d",)))

    def test_several_entries_at_one_path(self):
        self.check(a_state(placed=[a_folder("d"), a_file("d")], late=[]), ("take", ("d",), 0))
        lines = [a_line((1, 1), "d", text="x")]
        placed = [a_file("d", text="x"), a_folder("d")]
        self.check(a_state(lines, placed=placed), ("remove_folder", ("d",)))


class WayIn(Case):
    """Part 4: what is wanted where nothing is placed."""

    def test_a_folder(self):
        self.check(a_state([a_line((1, 1), "d")]), ("make_folder", ("d",)))

    def test_a_folder_without_a_line_of_its_own(self):
        self.check(a_state([a_line((1, 1), "d", "a", text="x")]), ("make_folder", ("d",)))

    def test_a_file_whose_text_lies_on_the_shelf(self):
        shelf = [kept(2, a_file("z", text="x", ids=((1, 1),)))]
        for swaps in [True, False]:
            self.check(a_state([a_line((1, 1), "a", text="x")], shelf=shelf, rule=Rule(swaps=swaps)), ("give", 2, ("a",)))

    def test_a_file_whose_text_does_not_lie_on_the_shelf(self):
        lines = [a_line((1, 1), "a", text="x")]
        for shelf in [[], [kept(2, a_file("a", text="y"))], [coming(2, (1, 1), "x", thing=1, length=1)]]:
            self.check(a_state(lines, shelf=shelf), None)

    def test_the_first_one_for_which_there_is_something_to_do(self):
        lines = [a_line((1, 1), "a", text="x"), a_line((2, 1), "b", text="y"), a_line((3, 1), "c")]
        shelf = [kept(2, a_file("z", text="y", ids=((2, 1),)))]
        self.check(a_state(lines, shelf=shelf), ("give", 2, ("b",)))
        self.check(a_state(lines), ("make_folder", ("c",)))

    def test_something_is_placed_at_the_path(self):
        state = a_state([a_line((1, 1), "d")], placed=[a_folder("d")])
        self.check(state, None)
        lines = [a_line((1, 1), "a", text="x")]
        shelf = [kept(2, a_file("z", text="x", ids=((1, 1),)))]
        self.check(a_state(lines, shelf=shelf, placed=[a_folder("a")], late=[("a",)]), None)
        self.check(a_state([a_line((1, 1), "d")], placed=[a_file("d")], late=[("d",)]), None)

    def test_a_late_path(self):
        lines = [a_line((1, 1), "d"), a_line((2, 1), "e")]
        self.check(a_state(lines, late=[("d",)]), ("make_folder", ("e",)))
        self.check(a_state(lines, late=[("e",), ("d",)]), None)

    def test_in_a_folder_that_is_not_placed(self):
        lines = [a_line((1, 1), "d", "e", "f")]
        self.check(a_state(lines), ("make_folder", ("d",)))
        self.check(a_state(lines, late=[("d",)]), None)
        self.check(a_state(lines, placed=[a_folder("d")]), ("make_folder", ("d", "e")))
        self.check(a_state(lines, placed=[a_folder("d"), a_folder("d", "e")]), ("make_folder", ("d", "e", "f")))
        self.check(a_state(lines, placed=[a_folder("d")], late=[("d", "e")]), None)

    def test_only_the_folder_of_the_path_itself_counts(self):
        lines = [a_line((1, 1), "d", "e", "f")]
        self.check(a_state(lines, placed=[a_folder("d", "e")], late=[("d",)]), ("make_folder", ("d", "e", "f")))

    def test_in_what_is_first_placed_at_the_path_of_its_folder(self):
        lines = [a_line((1, 1), "d", "a", text="x")]
        shelf = [kept(2, a_file("z", text="x", ids=((1, 1),)))]
        late = [("d",)]
        self.check(a_state(lines, shelf=shelf, placed=[a_file("d")], late=late), None)
        self.check(a_state(lines, shelf=shelf, placed=[a_file("d"), a_folder("d")], late=late), None)
        self.check(a_state(lines, shelf=shelf, placed=[a_folder("d"), a_file("d")], late=late), ("give", 2, ("d", "a")))

    def test_the_folder_may_be_late(self):
        lines = [a_line((1, 1), "d", "e")]
        self.check(a_state(lines, placed=[a_folder("d")], late=[("d",)]), ("make_folder", ("d", "e")))


class Order(Case):
    def test_the_four_parts_come_one_after_another(self):
        lines = [a_line((1, 1), "new")]
        more = {"placed": [a_folder("d"), a_file("a")], "shelf": [going_back(0, a_file("b"))], "next_place": 1}
        state = a_state(lines, **more)
        self.check(state, ("give", 0, ("b",)))
        state.shelf = []
        self.check(state, ("take", ("a",), 1))
        state.placed = [a_folder("d")]
        self.check(state, ("remove_folder", ("d",)))
        state.placed = []
        self.check(state, ("make_folder", ("new",)))
        state.placed = [a_folder("new")]
        self.check(state, None)

    def test_nothing_is_to_be_done(self):
        self.check(a_state(), None)


class Asking(unittest.TestCase):
    LINES = (
        a_line((1, 1), "d"), a_line((2, 1), "a (x)", text="x", inside=(1, 1), head=(5, 1)), a_line((3, 1), "con"),
        a_line((4, 1), "con", text="c"),
    )
    NOTHING = ((), (), None, None)

    def asked(self, operation, **more):
        state = a_state(self.LINES, rule=Rule(unfit=("con",)), **more)
        before = looks_of(state)
        self.assertIsNone(ask_for(state, operation))
        after = looks_of(state)
        self.assertEqual(state.stage, ("look",))
        self.assertEqual(
            {**after, "stage": None, "pending": None, "next_place": None},
            {**before, "stage": None, "pending": None, "next_place": None})
        self.assertEqual(state.pending[0], operation)
        return (state.pending[1:], state.next_place)

    def test_what_comes_to_a_path_at_which_something_is_wanted(self):
        file = (("d", "a (x)"), ((5, 1),), (2, 1), mark("x"))
        for operation in [("give", 3, ("d", "a (x)")), ("swap", 3, ("d", "a (x)"))]:
            self.assertEqual(self.asked(operation, next_place=2), (file, 2))
        folder = (("d",), ((1, 1),), (1, 1), None)
        for operation in [("make_folder", ("d",)), ("give", 0, ("d",)), ("swap", 9, ("d",))]:
            self.assertEqual(self.asked(operation), (folder, 0))

    def test_the_names_may_be_other_ones_than_the_path(self):
        self.assertEqual(self.asked(("make_folder", ("con (3-1)",))), ((("con",), ((3, 1),), (3, 1), None), 0))
        self.assertEqual(self.asked(("give", 3, ("con (4-1)",))), ((("con",), ((4, 1),), (4, 1), mark("c")), 0))

    def test_what_comes_to_a_path_at_which_nothing_is_wanted(self):
        for operation in [("give", 3, ("e", "b")), ("swap", 3, ("e", "b")), ("make_folder", ("e", "b"))]:
            self.assertEqual(self.asked(operation), ((("e", "b"), (), None, None), 0))

    def test_what_is_put_away_is_not_wanted(self):
        answer = ((("d", "a (x)"), (), None, None), 0)
        self.assertEqual(self.asked(("give", 3, ("d", "a (x)")), away=[((5, 1), 0, 1)]), answer)

    def test_all_other_operations(self):
        for operation in [("remove_folder", ("d",)), ("drop", 5, 2), ("shelf",), ("total",), ("read", ("d",)),
                          ("read_shelf", 7), ("names", ("d",)), ("was_read", 8, 9)]:
            self.assertEqual(self.asked(operation, next_place=3), (self.NOTHING, 3))

    def test_a_take_uses_its_place(self):
        for place, after in [(0, 4), (2, 4), (3, 4), (4, 5), (9, 10)]:
            self.assertEqual(self.asked(("take", ("d",), place), next_place=4), (self.NOTHING, after))

    def test_a_staging_uses_its_place(self):
        for place, after in [(0, 4), (2, 4), (3, 4), (4, 5), (9, 10)]:
            self.assertEqual(self.asked(("stage", place, "text", False), next_place=4), (self.NOTHING, after))

    def test_give_swap_and_drop_use_none(self):
        for operation in [("give", 9, ("d",)), ("swap", 9, ("d",)), ("drop", 9, 0)]:
            self.assertEqual(self.asked(operation, next_place=4)[1], 4)

    def test_what_was_pending_is_replaced(self):
        self.assertEqual(
            self.asked(("remove_folder", ("d",)), pending=(("take", ("a",), 3), (), (), None, None)), (self.NOTHING, 0))

    def test_what_is_placed_does_not_matter(self):
        item = a_file("d", "a (x)", text="x", ids=((9, 9),))
        row = placed_row(item)
        self.asked(("give", 3, ("d", "a (x)")), placed=[item])
        self.assertEqual(placed_row(item), row)


if __name__ == "__main__":
    unittest.main()
