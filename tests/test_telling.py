"""Points 60 to 63: places and names, and what a write replaces."""

import unittest

from foldkeep.names import Rule
from foldkeep.state import placed_row
from foldkeep.telling import names_at, own_name, place_at, replaced_by
from keeps import a_file, a_folder, a_state, looks_of


class NamesAndPlaces(unittest.TestCase):
    def check(self, placed, path, own, names, place):
        self.assertEqual(names_at(placed, path, own), names)
        self.assertEqual(place_at(placed, path, own), place)

    def test_in_the_root(self):
        for placed in [[], [a_folder("d", ids=((1, 0),))], [a_file("a", ids=((1, 0),))]]:
            self.check(placed, ("a",), "own", ("own",), (None, ("own",), ("own",)))

    def test_the_root_itself(self):
        self.check([a_folder("d", ids=((1, 0),))], (), "", ("",), (None, ("",), ("",)))

    def test_without_entries_the_names_above_are_those_of_the_path(self):
        names = ("d", "e", "own")
        self.check([], ("d", "e", "a"), "own", names, (None, names, names))

    def test_in_a_folder_with_other_names(self):
        placed = [a_folder("d (1-0)", names=("d",), ids=((1, 0), (2, 0)))]
        self.check(placed, ("d (1-0)", "a"), "own", ("d", "own"), ((1, 0), ("own",), ("d", "own")))

    def test_folders_at_several_depths(self):
        placed = [
            a_folder("d", names=("D",), ids=((1, 0),)), a_folder("d", "e", names=("D", "E"), ids=((2, 0),)),
            a_folder("d", "e", "f", names=("D", "E", "F"), ids=((3, 0),)),
        ]
        for order in [placed, placed[::-1]]:
            self.check(order, ("d", "e", "f", "a"), "own", ("D", "E", "F", "own"), ((3, 0), ("own",), ("D", "E", "F", "own")))
            self.check(order, ("d", "e", "a"), "own", ("D", "E", "own"), ((2, 0), ("own",), ("D", "E", "own")))
            self.check(order, ("d", "e", "f"), "own", ("D", "E", "own"), ((2, 0), ("own",), ("D", "E", "own")))

    def test_a_folder_that_stands_for_no_head_gives_names_but_no_place(self):
        placed = [a_folder("d", names=("D",), ids=((1, 0),)), a_folder("d", "e", names=("D", "E"))]
        self.check(placed, ("d", "e", "a"), "own", ("D", "E", "own"), ((1, 0), ("E", "own"), ("D", "E", "own")))
        self.check(placed[1:], ("d", "e", "a"), "own", ("D", "E", "own"), (None, ("D", "E", "own"), ("D", "E", "own")))

    def test_a_folder_further_above_than_the_folder_of_the_path(self):
        placed = [a_folder("d", names=("D",), ids=((1, 0),))]
        names = ("d", "e", "own")
        self.check(placed, ("d", "e", "a"), "own", names, ((1, 0), ("e", "own"), names))

    def test_a_file_is_no_nearest_folder_but_gives_names(self):
        placed = [a_file("d", names=("D",), ids=((1, 0),))]
        self.check(placed, ("d", "a"), "own", ("D", "own"), (None, ("D", "own"), ("D", "own")))

    def test_the_names_are_those_of_the_first_entry_at_the_path_of_the_folder(self):
        placed = [a_folder("d", names=("X",)), a_folder("d", names=("Y",), ids=((1, 0),))]
        self.check(placed, ("d", "a"), "own", ("X", "own"), ((1, 0), ("own",), ("X", "own")))

    def test_of_several_folders_with_one_path_the_last_one_is_the_nearest(self):
        placed = [
            a_folder("d", ids=((1, 0),)), a_folder("d", names=("Y", "Z"), ids=((2, 0),)), a_folder("d"),
            a_file("d", ids=((3, 0),)),
        ]
        self.check(placed, ("d", "e", "a"), "own", ("d", "e", "own"), ((2, 0), ("own",), ("d", "e", "own")))

    def test_the_longest_path_counts_wherever_it_stands(self):
        placed = [a_folder("d", "e", ids=((2, 0),)), a_folder("d", ids=((1, 0),)), a_folder("d", "x", ids=((3, 0),))]
        self.check(placed, ("d", "e", "f", "a"), "own", ("d", "e", "f", "own"), ((2, 0), ("f", "own"), ("d", "e", "f", "own")))

    def test_only_a_proper_beginning_is_above(self):
        placed = [a_folder("d", "e", ids=((1, 0),)), a_folder("d", "e", "f", ids=((2, 0),)), a_folder("D", ids=((3, 0),))]
        self.check(placed, ("d", "e"), "own", ("d", "own"), (None, ("d", "own"), ("d", "own")))


class OwnNames(unittest.TestCase):
    def test_at_the_old_path(self):
        self.assertEqual(own_name(a_file("d", "a (1-0)", names=("d", "a")), ("d", "a (1-0)")), "a")

    def test_at_another_path_with_the_old_last_name(self):
        self.assertEqual(own_name(a_file("d", "a (1-0)", names=("d", "a")), ("e", "f", "a (1-0)")), "a")

    def test_at_another_last_name(self):
        entry = a_file("d", "a (1-0)", names=("d", "a"))
        self.assertEqual(own_name(entry, ("d", "b")), "b")
        self.assertEqual(own_name(entry, ("d", "a")), "a")
        self.assertEqual(own_name(entry, ("d", "A (1-0)")), "A (1-0)")

    def test_folders_too(self):
        entry = a_folder("con (1-0)", names=("con",))
        self.assertEqual(own_name(entry, ("x", "con (1-0)")), "con")
        self.assertEqual(own_name(entry, ("x", "con")), "con")
        self.assertEqual(own_name(entry, ("x", "c")), "c")


class Replaced(unittest.TestCase):
    """The file has the thing 3 and the cuts 1, and stands for edits of other devices that programs have not had."""

    IDS = ((2, 1), (3, 2))

    def replaced(self, thing, cuts, *, read=False, ids=IDS, had=((("a",), ((1, 1),)),), rule=None):
        state = a_state(rule=rule, had=[(("a",), ((9, 9),))])
        was = a_file("a", thing=3, cuts=1, ids=ids)
        before = (looks_of(state), placed_row(was))
        answer = replaced_by(state, list(had), read, was, thing, cuts)
        self.assertEqual((looks_of(state), placed_row(was)), before)
        return answer

    def test_nothing_holds(self):
        self.assertEqual(self.replaced(4, 1), ((1, 1),))
        self.assertEqual(self.replaced(4, 0), ((1, 1),))
        self.assertEqual(self.replaced(4, 1, had=()), ())
        self.assertEqual(self.replaced(4, 1, had=[(("b",), self.IDS)]), ())

    def test_the_same_thing_with_the_same_cuts(self):
        self.assertEqual(self.replaced(3, 1), self.IDS)

    def test_the_same_thing_with_other_cuts(self):
        self.assertEqual(self.replaced(3, 2), ((1, 1),))
        self.assertEqual(self.replaced(3, 2, rule=Rule(swaps=False, reads=False, turns=False)), ((1, 1),))

    def test_a_host_that_does_not_tell_cuts(self):
        self.assertEqual(self.replaced(3, 2, rule=Rule(cuts=False)), self.IDS)
        self.assertEqual(self.replaced(4, 1, rule=Rule(cuts=False)), ((1, 1),))

    def test_programs_have_read_it(self):
        self.assertEqual(self.replaced(4, 0, read=True), self.IDS)
        self.assertEqual(self.replaced(3, 2, read=True), self.IDS)

    def test_it_stands_for_exactly_what_programs_have_had(self):
        self.assertEqual(self.replaced(4, 0, had=[(("a",), self.IDS)]), self.IDS)
        self.assertEqual(self.replaced(4, 0, had=[(("a",), self.IDS[::-1])]), self.IDS[::-1])
        self.assertEqual(self.replaced(4, 0, had=[(("a",), self.IDS[:1])]), self.IDS[:1])

    def test_one_of_its_heads_is_an_edit_of_this_device(self):
        self.assertEqual(self.replaced(4, 0, ids=((2, 1), (3, 0))), ((2, 1), (3, 0)))
        self.assertEqual(self.replaced(4, 0, ids=((2, 0),)), ((2, 0),))

    def test_a_file_without_heads(self):
        self.assertEqual(self.replaced(3, 1, ids=()), ())
        self.assertEqual(self.replaced(4, 1, ids=()), ((1, 1),))
        self.assertEqual(self.replaced(4, 1, ids=(), had=()), ())


if __name__ == "__main__":
    unittest.main()
