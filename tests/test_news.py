import itertools
import random
import unittest

from foldkeep.knowing import Knowledge
from foldkeep.lines import lines_of
from foldkeep.marks import mark_of
from foldkeep.news import (
    can_hear, edits_sound, forget, forget_up_to, hear_news, lines_sound, news_for,
)

ONE = mark_of("one", False)
TWO = mark_of("two", False)
MOST = 4294967295


def root(*names):
    return (None, names, names)


def write(edit_id, name="a", content=ONE, line=None, replaces=()):
    return ("write", edit_id, root(name), content, line, replaces)


def line(line_id, name="a", head=None, inside=None, content=ONE):
    return (line_id, head or line_id, inside, (name,), content)


def folder(line_id, name="d", inside=None):
    return line(line_id, name, None, inside, None)


def fields(knowledge):
    return (knowledge.clock, knowledge.base, knowledge.upto, knowledge.rest, knowledge.knows)


class News(unittest.TestCase):
    def knowledge(self):
        return Knowledge(
            [0, 1, 2], clock=9, base=[line((1, 0)), line((2, 1), "b")], upto=2, knows=[(0, 9), (1, 5), (2, 3)],
            rest=[write((3, 2), "c"), write((4, 0), "e"), write((5, 1), "f"), ("drop", (9, 0), ((1, 0),))])

    def check(self, since, base, upto, rest):
        knowledge = self.knowledge()
        known = knowledge.rest
        expected = ("news", 9, base, upto, tuple(known[at] for at in rest), ((0, 9), (1, 5), (2, 3)), since)
        self.assertEqual(news_for(knowledge, since), expected)
        self.assertEqual(fields(knowledge), fields(self.knowledge()))

    BASE = (line((1, 0)), line((2, 1), "b"))

    def test_since_nothing(self):
        self.check((), self.BASE, 2, [0, 1, 2, 3])
        self.check(((0, 0), (1, 0), (2, 0)), self.BASE, 2, [0, 1, 2, 3])

    def test_since_that_is_partial(self):
        self.check(((0, 4),), self.BASE, 2, [0, 2, 3])
        self.check(((0, 3), (2, 3)), self.BASE, 2, [1, 2, 3])
        self.check(((0, 9), (1, 5)), self.BASE, 2, [0])
        self.check(((7, 9),), self.BASE, 2, [0, 1, 2, 3])

    def test_since_that_names_a_device_twice(self):
        self.check(((0, 4), (0, 9)), self.BASE, 2, [0, 2, 3])
        self.check(((0, 9), (0, 4)), self.BASE, 2, [0, 2])
        self.check(((0, 2), (1, 2), (2, 1), (2, 2)), self.BASE, 2, [0, 1, 2, 3])
        self.check(((0, 2), (1, 2), (2, 2), (2, 1)), (), 0, [0, 1, 2, 3])

    def test_since_that_covers_upto(self):
        self.check(((0, 2), (1, 2), (2, 2)), (), 0, [0, 1, 2, 3])
        self.check(((0, 9), (1, 5), (2, 3)), (), 0, [])
        self.check(((2, 3), (1, 4), (0, 8)), (), 0, [2, 3])

    def test_since_that_covers_all_but_one(self):
        self.check(((0, 2), (1, 2), (2, 1)), self.BASE, 2, [0, 1, 2, 3])
        self.check(((0, 1), (1, 2), (2, 2)), self.BASE, 2, [0, 1, 2, 3])
        self.check(((0, 2), (1, 2)), self.BASE, 2, [0, 1, 2, 3])

    def test_a_beginning(self):
        self.assertEqual(news_for(Knowledge([4, 2]), ()), ("news", 0, (), 0, (), ((4, 0), (2, 0)), ()))
        self.assertEqual(news_for(Knowledge([]), ((1, 1),)), ("news", 0, (), 0, (), (), ((1, 1),)))

    def test_lists_are_tuples(self):
        news = news_for(self.knowledge(), ())
        self.assertIsInstance(news, tuple)
        for at in [2, 4, 5, 6]:
            self.assertIsInstance(news[at], tuple)


class SoundEdits(unittest.TestCase):
    def check(self, edits, expected):
        self.assertIs(edits_sound(edits), expected)
        self.assertIs(edits_sound(tuple(edits)), expected)

    def test_order(self):
        self.check([], True)
        self.check([write((1, 0))], True)
        self.check([write((1, 0)), write((1, 1)), write((2, 0))], True)
        self.check([write((1, 1)), write((1, 0))], False)
        self.check([write((2, 0)), write((1, 1))], False)
        self.check([write((1, 0)), write((1, 0))], False)
        self.check([write((1, 0)), write((3, 0)), write((2, 0))], False)

    def test_places(self):
        for place, expected in [
            ((None, (), ("a",)), False), ((None, ("a",), ()), False), (((1, 0), ("a",), ("d", "a")), True),
            (((1, 0), (), ("d", "a")), False), (((1, 0), ("a",), ()), False), ((None, (), ()), False),
        ]:
            self.check([("write", (5, 0), place, ONE, None, ())], expected)
            self.check([("write", (5, 0), place, None, None, ())], expected)
            entry = ((1, 0), (1, 0), place)
            fine = ((1, 0), (1, 0), root("a"))
            self.check([("move", (5, 0), (entry,))], expected)
            self.check([("move", (5, 0), (fine, entry))], expected)
            self.check([("move", (5, 0), (entry, fine))], expected)
        self.check([("move", (5, 0), ())], True)

    def test_replaced_ids(self):
        for replaced, expected in [((4, 9), True), ((5, 0), True), ((5, 1), False), ((5, 2), False), ((6, 0), False)]:
            for replaces in [(replaced,), ((1, 0), replaced), (replaced, (1, 0))]:
                self.check([write((5, 1), "a", ONE, None, replaces)], expected)
                self.check([write((5, 1), "a", None, None, replaces)], expected)
                self.check([("drop", (5, 1), replaces)], expected)
        self.check([("drop", (5, 1), ())], True)

    def test_a_move_replaces_nothing(self):
        self.check([("move", (5, 1), (((9, 9), (9, 9), root("a")),))], True)

    def test_one_among_many(self):
        edits = [write((clock, 0)) for clock in range(1, 8)]
        self.check(edits, True)
        for at in range(7):
            self.check(edits[:at] + [("drop", (at + 1, 0), ((at + 1, 0),))] + edits[at + 1:], False)


class SoundLines(unittest.TestCase):
    def check(self, lines, expected):
        self.assertIs(lines_sound(lines), expected)
        self.assertIs(lines_sound(tuple(lines)), expected)

    def test_sound(self):
        self.check([], True)
        self.check([line((1, 0)), line((1, 1)), line((2, 0), "b", (9, 0))], True)
        self.check([folder((1, 0)), line((2, 0), "a", None, (1, 0)), folder((3, 0), "e", (1, 0))], True)
        self.check([line((2, 0), "a", None, (3, 0)), folder((3, 0), "e", (4, 0)), folder((4, 0))], True)

    def test_order(self):
        self.check([line((1, 1)), line((1, 0))], False)
        self.check([line((1, 0), "a", (2, 0)), line((1, 0), "b", (3, 0))], False)
        self.check([line((1, 0)), line((3, 0)), line((2, 0))], False)

    def test_heads(self):
        self.check([line((1, 0), "a", (5, 0)), line((2, 0), "b", (5, 0))], False)
        self.check([line((1, 0), "a", (2, 0)), line((2, 0), "b")], False)
        self.check([line((1, 0), "a", (2, 0)), line((2, 0), "b", (1, 0))], True)
        self.check([line((1, 0), "a", (2, 0)), line((2, 0), "b", (4, 0)), line((3, 0), "c", (2, 0))], False)

    def test_a_folder_with_another_head(self):
        self.check([((1, 0), (2, 0), None, ("d",), None)], False)
        self.check([((2, 0), (1, 0), None, ("d",), None)], False)

    def test_an_empty_below(self):
        self.check([((1, 0), (1, 0), None, (), ONE)], False)
        self.check([((1, 0), (1, 0), None, (), None)], False)
        self.check([folder((1, 0)), ((2, 0), (2, 0), (1, 0), (), ONE)], False)

    def test_inside_what_is_no_folder(self):
        self.check([line((1, 0)), line((2, 0), "b", None, (1, 0))], False)
        self.check([line((2, 0), "b", None, (1, 0))], False)
        self.check([folder((1, 0)), line((2, 0), "b", (3, 0)), line((4, 0), "c", None, (3, 0))], False)

    def test_inside_itself(self):
        self.check([folder((1, 0), "d", (1, 0))], False)
        self.check([folder((1, 0), "d", (2, 0)), folder((2, 0), "e", (1, 0))], False)
        self.check([folder((1, 0), "d", (2, 0)), folder((2, 0), "e", (3, 0)), folder((3, 0), "f", (1, 0))], False)
        self.check([folder((1, 0)), folder((2, 0), "e", (3, 0)), folder((3, 0), "f", (2, 0))], False)
        self.check([folder((1, 0), "d", (1, 0)), line((2, 0), "a", None, (1, 0)), line((3, 0), "b")], False)

    def test_a_line_inside_itself(self):
        self.check([line((1, 0), "a", None, (1, 0))], False)

    def test_many(self):
        chain = [folder((1, 0))] + [folder((clock, 0), "e", (clock - 1, 0)) for clock in range(2, 3001)]
        self.check(chain, True)
        self.check([folder((1, 0), "d", (3000, 0))] + chain[1:], False)


class Conditions(unittest.TestCase):
    """Each condition by itself, at the bound and one beyond it."""

    KNOWS = ((0, 7), (1, 9))

    def knowledge(self):
        return Knowledge([0, 1], clock=8, rest=[write((8, 0))], knows=[(0, 8), (1, 4)])

    def news(self, *, clock=9, base=(), upto=0, rest=(), knows=KNOWS, since=()):
        return ("news", clock, base, upto, rest, knows, since)

    def check(self, expected, me=0, **parts):
        knowledge = self.knowledge()
        news = self.news(**parts)
        self.assertIs(can_hear(knowledge, me, news), expected, news)
        self.assertEqual(fields(knowledge), fields(self.knowledge()))
        self.assertIs(hear_news(knowledge, me, news), expected, news)
        if not expected:
            self.assertEqual(fields(knowledge), fields(self.knowledge()))

    def test_what_can_be_heard(self):
        self.check(True)
        self.check(True, base=(line((1, 0)), line((2, 1), "b")), upto=2, rest=(write((3, 0)), write((4, 1))))

    def test_1_the_base(self):
        for base in [
            (line((2, 0)), line((1, 0))), (line((1, 0), "a", (3, 0)), line((2, 0), "b", (3, 0))),
            (((1, 0), (2, 0), None, ("d",), None),), (((1, 0), (1, 0), None, (), ONE),),
            (line((2, 0), "a", None, (1, 0)),), (line((1, 0)), line((2, 0), "a", None, (1, 0))),
            (folder((1, 0), "d", (1, 0)),), (folder((1, 0), "d", (2, 0)), folder((2, 0), "e", (1, 0))),
        ]:
            self.check(False, base=base, upto=5)
        self.check(True, base=(folder((1, 0)), line((2, 0), "a", None, (1, 0))), upto=5)

    def test_1_the_clocks_of_the_base(self):
        self.check(True, base=(line((3, 0)),), upto=3)
        self.check(False, base=(line((4, 0)),), upto=3)
        self.check(True, base=(line((1, 0), "a", (3, 1)),), upto=3)
        self.check(False, base=(line((1, 0), "a", (4, 1)),), upto=3)
        self.check(False, base=(line((4, 0), "a", (3, 1)),), upto=3)
        self.check(False, base=(line((1, 0)), line((2, 0), "b", (4, 1))), upto=3)
        self.check(False, base=(line((1, 0)),), upto=0)

    def test_2_the_edits(self):
        for rest in [
            (write((5, 0)), write((4, 0))), (write((5, 0)), write((5, 0))),
            (("write", (5, 0), (None, (), ("a",)), ONE, None, ()),),
            (("write", (5, 0), (None, ("a",), ()), ONE, None, ()),),
            (("move", (5, 0), (((1, 0), (1, 0), (None, ("a",), ())),)),),
            (("drop", (5, 0), ((5, 0),)),), (write((5, 0), "a", ONE, None, ((6, 0),)),),
        ]:
            self.check(False, rest=rest)
        self.check(True, rest=(write((4, 0)), write((5, 0), "b", ONE, None, ((4, 1),)), ("drop", (5, 1), ((5, 0),))))

    def test_2_the_clocks_of_the_edits(self):
        self.check(True, upto=3, rest=(write((4, 0)),))
        self.check(False, upto=3, rest=(write((3, 0)),))
        self.check(False, upto=3, rest=(write((3, 0)), write((4, 0))))
        self.check(True, rest=(write((7, 0)),))
        self.check(False, rest=(write((8, 0)),))
        self.check(True, rest=(write((9, 1)),))
        self.check(False, rest=(write((10, 1)),))
        self.check(False, rest=(write((1, 2)),))

    def test_3_the_clocks(self):
        self.check(True, upto=7)
        self.check(False, upto=8)
        self.check(False, upto=5, knows=((0, 7), (1, 4)))
        self.check(True, upto=5, knows=((0, 5), (1, 5)))
        self.check(True, clock=9)
        self.check(False, clock=8)
        self.check(False, clock=6, knows=((0, 7), (1, 6)))

    def test_4_the_greatest_clock(self):
        self.check(True, clock=MOST)
        self.check(False, clock=MOST + 1)
        self.check(True, clock=MOST, knows=((0, 7), (1, MOST)))
        self.check(False, clock=MOST + 1, knows=((0, 7), (1, MOST + 1)))

    def test_5_the_clock_of_the_receiver(self):
        self.check(True, knows=((0, 8), (1, 9)))
        self.check(False, knows=((0, 9), (1, 9)))
        self.check(True, me=1, knows=((0, 9), (1, 4)))
        self.check(False, me=1, knows=((0, 9), (1, 5)))

    def test_6_the_devices(self):
        for knows in [((1, 7), (0, 8)), ((0, 7),), ((0, 7), (1, 9), (2, 9)), ((0, 7), (2, 9)), (), ((1, 9),)]:
            self.check(False, knows=knows)

    def test_7_since(self):
        self.check(True, since=((0, 8), (1, 4)))
        self.check(False, since=((0, 9), (1, 4)))
        self.check(False, since=((0, 8), (1, 5)))
        self.check(True, since=((7, 0),))
        self.check(False, since=((7, 1),))
        self.check(False, since=((0, 8), (0, 9)))
        self.check(False, since=((0, 9), (0, 8)))
        self.check(True, since=((0, 8), (0, 7)))


class Hearing(unittest.TestCase):
    def test_edits_clocks_and_the_promise(self):
        knowledge = Knowledge([0, 1, 2], clock=3, rest=[write((2, 0)), write((3, 1))], knows=[(0, 3), (1, 3), (2, 0)])
        news = ("news", 6, (), 0, (write((1, 2)), write((5, 1)), write((6, 2))), ((0, 1), (1, 5), (2, 6)), ())
        self.assertIs(hear_news(knowledge, 0, news), True)
        self.assertEqual(fields(knowledge), (
            6, [], 0, [write((1, 2)), write((2, 0)), write((3, 1)), write((5, 1)), write((6, 2))],
            [(0, 6), (1, 5), (2, 6)]))
        self.assertEqual(knowledge.write(0, root("n"), ONE, None, ())[1], (7, 0))

    def test_a_smaller_clock(self):
        knowledge = Knowledge([0, 1], clock=8, knows=[(0, 8), (1, 4)])
        self.assertTrue(hear_news(knowledge, 0, ("news", 5, (), 0, (write((5, 1)),), ((0, 2), (1, 5)), ())))
        self.assertEqual(fields(knowledge), (8, [], 0, [write((5, 1))], [(0, 8), (1, 5)]))
        self.assertTrue(hear_news(knowledge, 0, ("news", 3, (), 0, (), ((0, 2), (1, 3)), ())))
        self.assertEqual(fields(knowledge), (8, [], 0, [write((5, 1))], [(0, 8), (1, 5)]))

    def test_greater_equal_and_less_upto(self):
        own, others = [line((1, 0), "own")], (line((1, 1), "other"),)
        for upto, base, kept in [(2, own, 2), (3, own, 3), (4, list(others), 4)]:
            knowledge = Knowledge([0, 1], clock=6, base=own, upto=3, rest=[write((4, 0)), write((5, 0))],
                                  knows=[(0, 6), (1, 3)])
            news = ("news", 6, others, upto, (write((5, 1)),), ((0, 5), (1, 6)), ())
            self.assertTrue(hear_news(knowledge, 0, news))
            rest = [write((4, 0)), write((5, 0)), write((5, 1))]
            self.assertEqual(fields(knowledge), (
                6, base, max(3, upto), [edit for edit in rest if edit[1][0] > max(3, upto)], [(0, 6), (1, 6)]))

    def test_their_edits_that_are_in_the_own_base(self):
        knowledge = Knowledge([0, 1], clock=6, base=[line((1, 0))], upto=3, knows=[(0, 6), (1, 3)])
        news = ("news", 6, (), 0, (write((1, 0)), write((3, 1)), write((4, 1))), ((0, 5), (1, 6)), ())
        self.assertTrue(hear_news(knowledge, 0, news))
        self.assertEqual((knowledge.base, knowledge.rest), ([line((1, 0))], [write((4, 1))]))

    def test_edits_that_both_have(self):
        knowledge = Knowledge([0, 1], clock=2, rest=[write((1, 0)), write((2, 1), "own")], knows=[(0, 2), (1, 2)])
        news = ("news", 3, (), 0, (write((1, 0)), write((2, 1), "other"), write((3, 1))), ((0, 2), (1, 3)), ())
        self.assertTrue(hear_news(knowledge, 0, news))
        self.assertEqual(knowledge.rest, [write((1, 0)), write((2, 1), "own"), write((3, 1))])

    def test_heard_twice(self):
        knowledge = Knowledge([0, 1], clock=1, rest=[write((1, 0))], knows=[(0, 1), (1, 0)])
        news = ("news", 4, (), 0, (write((3, 1)), write((4, 1))), ((0, 1), (1, 4)), ())
        self.assertTrue(hear_news(knowledge, 0, news))
        once = fields(knowledge.copy_of())
        self.assertTrue(hear_news(knowledge, 0, news))
        self.assertEqual(fields(knowledge), once)

    def test_lists_are_new_and_news_are_not_changed(self):
        other = Knowledge([0, 1], base=[line((1, 1))], upto=1, clock=2, rest=[write((2, 1))], knows=[(0, 1), (1, 2)])
        receiver = Knowledge([0, 1], clock=1, knows=[(0, 1), (1, 0)])
        news = news_for(other, tuple(receiver.knows))
        self.assertTrue(hear_news(receiver, 0, news))
        self.assertIsInstance(receiver.base, list)
        before = (news, fields(other.copy_of()))
        receiver.write(0, root("n"), ONE, None, ())
        forget_up_to(receiver, 9)
        self.assertEqual((news, fields(other)), before)

    def test_both_orders(self):
        first = ("news", 3, (), 0, (write((1, 1)), write((3, 1))), ((0, 0), (1, 3), (2, 0)), ())
        second = ("news", 4, (), 0, (write((2, 2)), write((4, 2))), ((0, 0), (1, 1), (2, 4)), ())
        made = []
        for order in [(first, second), (second, first)]:
            knowledge = Knowledge([0, 1, 2])
            for news in order:
                self.assertTrue(hear_news(knowledge, 0, news))
            made.append(fields(knowledge))
        self.assertEqual(made[0], made[1])
        self.assertEqual(made[0][0], 4)
        self.assertEqual(made[0][4], [(0, 4), (1, 3), (2, 4)])


class Forgetting(unittest.TestCase):
    EDITS = [
        write((1, 0), "d", None), ("write", (2, 1), ((1, 0), ("x",), ("d", "x")), ONE, None, ()),
        write((3, 0), "y", TWO), ("move", (3, 1), (((3, 0), (3, 0), ((1, 0), ("y",), ("d", "y"))),)),
        write((5, 0), "y", ONE, (3, 0), ((3, 0),)), ("drop", (6, 1), ((1, 0),)),
    ]

    def knowledge(self, knows=((0, 5), (1, 6))):
        return Knowledge([0, 1], clock=6, rest=self.EDITS, knows=knows)

    def test_up_to_a_clock(self):
        for clock in range(8):
            knowledge = self.knowledge()
            self.assertIsNone(forget_up_to(knowledge, clock))
            old = [edit for edit in self.EDITS if edit[1][0] <= clock]
            self.assertEqual(fields(knowledge), (
                6, lines_of(old), clock, self.EDITS[len(old):], [(0, 5), (1, 6)]))
            self.assertEqual(knowledge.lines(), lines_of(self.EDITS))

    def test_step_by_step(self):
        knowledge = self.knowledge()
        for clock in [1, 3, 3, 6]:
            forget_up_to(knowledge, clock)
            self.assertEqual(knowledge.upto, clock)
            self.assertEqual(knowledge.lines(), lines_of(self.EDITS))
        self.assertEqual((knowledge.base, knowledge.rest), (lines_of(self.EDITS), []))

    def test_what_is_forgotten_already(self):
        knowledge = self.knowledge()
        forget_up_to(knowledge, 3)
        before = fields(knowledge.copy_of())
        for clock in [0, 2, 3]:
            forget_up_to(knowledge, clock)
            self.assertEqual(fields(knowledge), before)

    def test_up_to_the_least_clock(self):
        for knows, upto in [(((0, 5), (1, 6)), 5), (((0, 6), (1, 3)), 3), (((0, 0), (1, 6)), 0)]:
            knowledge = self.knowledge(knows)
            self.assertIsNone(forget(knowledge))
            self.assertEqual(knowledge.upto, upto)
            self.assertEqual(knowledge.rest, [edit for edit in self.EDITS if edit[1][0] > upto])
            self.assertEqual(knowledge.lines(), lines_of(self.EDITS))
            self.assertEqual((knowledge.clock, knowledge.knows), (6, list(knows)))

    def test_a_least_clock_that_is_less_than_upto(self):
        knowledge = self.knowledge(((0, 2), (1, 6)))
        forget_up_to(knowledge, 3)
        before = fields(knowledge.copy_of())
        forget(knowledge)
        self.assertEqual(fields(knowledge), before)

    def test_without_devices(self):
        knowledge = Knowledge([])
        forget(knowledge)
        self.assertEqual(fields(knowledge), (0, [], 0, [], []))


class Together(unittest.TestCase):
    """Devices that tell one another news, late, doubled and in any order, come to know the same lines."""

    def edit(self, chance, knowledge, me):
        lines = knowledge.lines()
        heads = tuple(row[1] for row in lines if chance.random() < 0.3)
        inside = chance.choice([None] + [row[0] for row in lines])
        place = (inside, (chance.choice("xy"),), ("d", chance.choice("xy")))
        meant = chance.choice([None] + [row[0] for row in lines])
        kind = chance.randrange(4)
        if kind == 0:
            knowledge.drop(me, heads[:1])
        elif kind == 1 and lines:
            row = chance.choice(lines)
            knowledge.move(me, ((row[1], row[0], place),))
        else:
            knowledge.write(me, place, chance.choice([None, ONE, TWO]), meant, heads[:2])

    def test_they_agree_in_the_end(self):
        for seed in range(40):
            chance = random.Random(seed)
            devices = [Knowledge([0, 1, 2]) for _ in range(3)]
            said = [[tuple(known.knows) for known in devices] for _ in range(3)]
            letters = []
            for _ in range(80):
                me, other = chance.sample(range(3), 2)
                if chance.random() < 0.4:
                    self.edit(chance, devices[me], me)
                elif letters and chance.random() < 0.6:
                    at = chance.randrange(len(letters))
                    sender, receiver, news = letters[at]
                    if chance.random() < 0.8:
                        letters.pop(at)
                    if hear_news(devices[receiver], receiver, news):
                        forget(devices[receiver])
                        self.assertTrue(lines_sound(devices[receiver].base))
                        self.assertTrue(edits_sound(devices[receiver].rest))
                    said[receiver][sender] = news[5]
                else:
                    letters.append((me, other, news_for(devices[me], said[me][other])))
            for _ in range(3):
                for me, other in itertools.permutations(range(3), 2):
                    news = news_for(devices[me], tuple(devices[other].knows))
                    self.assertTrue(hear_news(devices[other], other, news))
                    forget(devices[other])
            for known in devices:
                self.assertEqual(known.lines(), devices[0].lines())
                self.assertEqual(known.knows, devices[0].knows)


if __name__ == "__main__":
    unittest.main()
