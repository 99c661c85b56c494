import unittest

from foldkeep.knowing import Knowledge
from foldkeep.lines import lines_of
from foldkeep.marks import mark_of

ONE = mark_of("one", False)
TWO = mark_of("two", False)


def root(*names):
    return (None, names, names)


def fields(knowledge):
    return (knowledge.clock, knowledge.base, knowledge.upto, knowledge.rest, knowledge.knows)


class Beginning(unittest.TestCase):
    def test_it_knows_nothing(self):
        knowledge = Knowledge([0, 1, 2])
        self.assertEqual(fields(knowledge), (0, [], 0, [], [(0, 0), (1, 0), (2, 0)]))
        self.assertEqual(knowledge.lines(), [])

    def test_devices_in_their_order(self):
        self.assertEqual(Knowledge([5, 1, 3]).knows, [(5, 0), (1, 0), (3, 0)])
        self.assertEqual(Knowledge([]).knows, [])

    def test_what_is_given(self):
        base = [((1, 0), (1, 0), None, ("a",), ONE)]
        rest = [("drop", (3, 1), ((1, 0),))]
        knows = [(0, 2), (1, 3)]
        knowledge = Knowledge([0, 1], clock=4, base=base, upto=2, rest=rest, knows=knows)
        self.assertEqual(fields(knowledge), (4, base, 2, rest, knows))
        for made, given in [(knowledge.base, base), (knowledge.rest, rest), (knowledge.knows, knows)]:
            self.assertIsNot(made, given)
        same = Knowledge([0, 1], clock=4, base=tuple(base), upto=2, rest=tuple(rest), knows=tuple(knows))
        self.assertEqual(fields(same), fields(knowledge))

    def test_given_knows_count_whatever_the_devices_are(self):
        self.assertEqual(Knowledge([0, 1], knows=[(7, 9)]).knows, [(7, 9)])
        self.assertEqual(Knowledge([0, 1], knows=[]).knows, [])

    def test_two_do_not_share_what_was_not_given(self):
        first = Knowledge([0])
        first.write(0, root("a"), ONE, None, ())
        self.assertEqual(fields(Knowledge([0])), (0, [], 0, [], [(0, 0)]))

    def test_by_keyword_only(self):
        with self.assertRaises(TypeError):
            Knowledge([0], 1)


class Asking(unittest.TestCase):
    def knowledge(self):
        base = [((1, 0), (1, 0), None, ("a",), ONE), ((2, 1), (2, 1), None, ("b",), TWO)]
        rest = [("write", (3, 1), root("c"), TWO, (1, 0), ((1, 0),)), ("drop", (4, 0), ((2, 1),))]
        return Knowledge([0, 1], clock=4, base=base, upto=2, rest=rest, knows=[(0, 4), (1, 3)])

    def test_lines(self):
        knowledge = self.knowledge()
        before = fields(self.knowledge())
        lines = knowledge.lines()
        self.assertEqual(lines, [((1, 0), (3, 1), None, ("a",), TWO)])
        lines.clear()
        self.assertEqual(fields(knowledge), before)

    def test_lines_without_a_rest_are_a_new_list(self):
        knowledge = Knowledge([0], base=[((1, 0), (1, 0), None, ("a",), ONE)], upto=1)
        knowledge.lines().clear()
        self.assertEqual(len(knowledge.base), 1)

    def test_is_head(self):
        knowledge = self.knowledge()
        self.assertIs(knowledge.is_head((3, 1)), True)
        for edit_id in [(1, 0), (2, 1), (4, 0), (3, 0), (9, 9)]:
            self.assertIs(knowledge.is_head(edit_id), False)

    def test_known_up_to(self):
        knowledge = self.knowledge()
        self.assertEqual([knowledge.known_up_to(device) for device in [0, 1, 2]], [4, 3, 0])


class Making(unittest.TestCase):
    def test_write(self):
        knowledge = Knowledge([0, 1], clock=6, knows=[(0, 6), (1, 5)], upto=5)
        place = ((1, 0), ("x",), ("d", "x"))
        edit = knowledge.write(1, place, ONE, (2, 0), ((3, 0), (4, 1)))
        self.assertEqual(edit, ("write", (7, 1), place, ONE, (2, 0), ((3, 0), (4, 1))))
        self.assertEqual(fields(knowledge), (7, [], 5, [edit], [(0, 6), (1, 7)]))

    def test_write_of_a_folder(self):
        knowledge = Knowledge([0])
        edit = knowledge.write(0, root("d"), None, None, ())
        self.assertEqual(edit, ("write", (1, 0), root("d"), None, None, ()))
        self.assertEqual(knowledge.lines(), [((1, 0), (1, 0), None, ("d",), None)])

    def test_drop(self):
        knowledge = Knowledge([3, 0], clock=2)
        edit = knowledge.drop(3, ((1, 0), (2, 0)))
        self.assertEqual(edit, ("drop", (3, 3), ((1, 0), (2, 0))))
        self.assertEqual(fields(knowledge), (3, [], 0, [edit], [(3, 3), (0, 0)]))

    def test_move(self):
        knowledge = Knowledge([0, 1])
        moved = (((1, 0), (1, 0), root("b")), ((2, 0), (1, 1), root("c")))
        edit = knowledge.move(1, moved)
        self.assertEqual(edit, ("move", (1, 1), moved))
        self.assertEqual(fields(knowledge), (1, [], 0, [edit], [(0, 0), (1, 1)]))

    def test_one_after_another(self):
        knowledge = Knowledge([0, 1])
        first = knowledge.write(0, root("a"), ONE, None, ())
        second = knowledge.write(0, root("b"), TWO, None, ())
        third = knowledge.move(0, ((second[1], second[1], root("c")),))
        fourth = knowledge.drop(0, (first[1],))
        edits = [first, second, third, fourth]
        self.assertEqual([edit[1] for edit in edits], [(1, 0), (2, 0), (3, 0), (4, 0)])
        self.assertEqual(fields(knowledge), (4, [], 0, edits, [(0, 4), (1, 0)]))
        self.assertEqual(knowledge.lines(), lines_of(edits))
        self.assertEqual(knowledge.lines(), [((2, 0), (2, 0), None, ("c",), TWO)])

    def test_a_device_that_is_not_named(self):
        knowledge = Knowledge([0, 1])
        edit = knowledge.write(7, root("a"), ONE, None, ())
        self.assertEqual(fields(knowledge), (1, [], 0, [edit], [(0, 0), (1, 0)]))
        self.assertEqual(edit[1], (1, 7))

    def test_edits_are_tuples(self):
        knowledge = Knowledge([0])
        replaces = ((1, 0),)
        self.assertIsInstance(knowledge.write(0, root("a"), ONE, None, replaces)[5], tuple)
        self.assertIsInstance(knowledge.drop(0, replaces)[2], tuple)
        self.assertIsInstance(knowledge.move(0, ())[2], tuple)


class Copies(unittest.TestCase):
    def knowledge(self):
        return Knowledge(
            [0, 1], clock=3, base=[((1, 0), (1, 0), None, ("a",), ONE)], upto=1, knows=[(0, 2), (1, 3)],
            rest=[("write", (2, 0), root("b"), TWO, None, ()), ("drop", (3, 1), ((1, 0),))])

    def change(self, knowledge):
        knowledge.write(0, root("c"), ONE, None, ())
        knowledge.base.clear()
        knowledge.upto = 9

    def test_equal(self):
        knowledge = self.knowledge()
        copy = knowledge.copy_of()
        self.assertIsInstance(copy, Knowledge)
        self.assertIsNot(copy, knowledge)
        self.assertEqual(fields(copy), fields(knowledge))
        self.assertEqual(copy.lines(), knowledge.lines())

    def test_in_both_directions(self):
        knowledge = self.knowledge()
        copy = knowledge.copy_of()
        self.change(copy)
        self.assertEqual(fields(knowledge), fields(self.knowledge()))
        copy = knowledge.copy_of()
        self.change(knowledge)
        self.assertEqual(fields(copy), fields(self.knowledge()))

    def test_without_devices(self):
        self.assertEqual(fields(Knowledge([]).copy_of()), (0, [], 0, [], []))


if __name__ == "__main__":
    unittest.main()
