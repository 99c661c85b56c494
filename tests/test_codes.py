"""Points 117 and 118: how things are written as integers, and read back."""

import unittest

from foldkeep.codes import (
    Reader, pack_edit, pack_line, pack_operation, pack_path, pack_placed, pack_shelved, pack_text, read_edit, read_line,
    read_operation, read_placed, read_shelved,
)
from foldkeep.errors import NoKeeper
from foldkeep.state import Placed, Shelved, placed_row, shelved_row

ALL_SIGNS = "".join(chr(code) for code in [9, 10, *range(32, 37), *range(38, 127)])
MARK = (3, 10, 20, True)
MARK_CODES = [3, 10, 20, 1]
ROW = (("a",), ("b", "c"), 4, 5, 6, MARK, ((1, 2), (3, 4)), (1, 2), True)
ROW_CODES = [1, 1, 97, 2, 1, 98, 1, 99, 4, 5, 6, 1, *MARK_CODES, 2, 1, 2, 3, 4, 1, 1, 2, 1]
EMPTY_ROW = ((), (), 0, 0, 0, None, (), None, False)
EMPTY_CODES = [0, 0, 0, 0, 0, 0, 0, 0, 0]
PLACE = ((7, 1), ("x",), ("d", "x"))
PLACE_CODES = [1, 7, 1, 1, 1, 120, 2, 1, 100, 1, 120]
ROOT_PLACE = (None, ("x",), ("x",))
ROOT_CODES = [0, 1, 1, 120, 1, 1, 120]

EDITS = [
    (("write", (9, 1), PLACE, MARK, (2, 1), ((3, 1), (4, 0))),
     [9, 1, 0, *PLACE_CODES, 1, *MARK_CODES, 1, 2, 1, 2, 3, 1, 4, 0]),
    (("write", (9, 1), ROOT_PLACE, None, None, ()), [9, 1, 0, *ROOT_CODES, 0, 0, 0]),
    (("write", (9, 1), ROOT_PLACE, None, (2, 1), ()), [9, 1, 0, *ROOT_CODES, 0, 1, 2, 1, 0]),
    (("write", (9, 1), ROOT_PLACE, (0, 0, 0, False), None, ((8, 0),)), [9, 1, 0, *ROOT_CODES, 1, 0, 0, 0, 0, 0, 1, 8, 0]),
    (("drop", (9, 1), ((3, 1), (4, 0))), [9, 1, 1, 2, 3, 1, 4, 0]),
    (("drop", (9, 1), ()), [9, 1, 1, 0]),
    (("move", (9, 1), (((3, 1), (2, 1), PLACE), ((4, 0), (4, 0), ROOT_PLACE))),
     [9, 1, 2, 2, 3, 1, 2, 1, *PLACE_CODES, 4, 0, 4, 0, *ROOT_CODES]),
    (("move", (9, 1), ()), [9, 1, 2, 0]),
]
LINES = [
    (((1, 0), (5, 2), (3, 1), ("a", "b"), MARK), [1, 0, 5, 2, 1, 3, 1, 2, 1, 97, 1, 98, 1, *MARK_CODES]),
    (((1, 0), (1, 0), None, ("a",), None), [1, 0, 1, 0, 0, 1, 1, 97, 0]),
    (((1, 0), (1, 0), None, ("a",), MARK), [1, 0, 1, 0, 0, 1, 1, 97, 1, *MARK_CODES]),
    (((1, 0), (1, 0), (3, 1), (), None), [1, 0, 1, 0, 1, 3, 1, 0, 0]),
]
OPERATIONS = [
    (("names", ("a",)), [0, 1, 1, 97]),
    (("names", ()), [0, 0]),
    (("total",), [1]),
    (("read", ("a", "b")), [2, 2, 1, 97, 1, 98]),
    (("read_shelf", 7), [3, 7]),
    (("was_read", 7, 8), [4, 7, 8]),
    (("shelf",), [5]),
    (("stage", 7, "xy", True), [6, 7, 2, 120, 121, 1]),
    (("stage", 7, "", False), [6, 7, 0, 0]),
    (("take", ("a",), 7), [7, 1, 1, 97, 7]),
    (("give", 7, ("a",)), [8, 7, 1, 1, 97]),
    (("swap", 7, ("a",)), [9, 7, 1, 1, 97]),
    (("make_folder", ("a",)), [10, 1, 1, 97]),
    (("remove_folder", ("a",)), [11, 1, 1, 97]),
    (("drop", 7, 8), [12, 7, 8]),
]


def entries_of_the_shelf():
    """The entries with each purpose, and their integers."""
    was = Placed(*ROW)
    empty = Placed(*EMPTY_ROW)
    start = [1, 2, 3, 4, 5]
    return [
        (Shelved(*start, ("coming", (6, 7), MARK)), [*start, 0, 6, 7, *MARK_CODES]),
        (Shelved(*start, ("kept", was)), [*start, 1, *ROW_CODES]),
        (Shelved(*start, ("kept", empty)), [*start, 1, *EMPTY_CODES]),
        (Shelved(*start, ("found", was)), [*start, 2, *ROW_CODES]),
        (Shelved(*start, ("back", was, ("p", "q"), 8)), [*start, 3, *ROW_CODES, 2, 1, 112, 1, 113, 8]),
        (Shelved(*start, ("back", empty, (), 0)), [*start, 3, *EMPTY_CODES, 0, 0]),
    ]


class Case(unittest.TestCase):
    def check(self, action, codes, thing):
        """Reads it, with and without more integers behind it, and checks that each missing integer is noticed."""
        for more in [[], [5], [0, 0, 0]]:
            reader = Reader(codes + more)
            self.assertEqual(action(reader), thing)
            self.assertEqual(reader.at_end(), more == [])
            self.assertEqual([reader.number() for _ in more], more)
            self.assertTrue(reader.at_end())
        for length in range(len(codes)):
            self.refused(action, codes[:length])

    def refused(self, action, codes):
        """Checks that it cannot be read, and that nothing has been read then."""
        reader = Reader(codes)
        with self.assertRaises(NoKeeper, msg=str(codes)):
            action(reader)
        self.assertEqual([reader.number() for _ in codes], codes)

    def refused_with_others(self, action, codes, at, wrong):
        """Checks that these integers in place of the one at this index are refused."""
        for code in wrong:
            self.refused(action, codes[:at] + [code] + codes[at + 1:])


class PlainThings(Case):
    def test_integers(self):
        for code in [0, 1, 4294967296, 10 ** 60 - 1]:
            self.check(Reader.number, [code], code)
        with self.assertRaises(NoKeeper):
            Reader([-1]).number()

    def test_flags(self):
        for code, flag in [(0, False), (1, True)]:
            self.check(Reader.flag, [code], flag)
            self.assertIs(Reader([code]).flag(), flag)
        for code in [2, 3, 10 ** 59]:
            self.refused(Reader.flag, [code, 0])

    def test_signs(self):
        for sign in ALL_SIGNS:
            self.check(Reader.sign, [ord(sign)], sign)
        for code in [*range(9), *range(11, 32), 37, 127, 128, 160, 228, 8364, 65536, 1114112, 10 ** 30]:
            self.refused(Reader.sign, [code])

    def test_sizes(self):
        for codes, size in [([0], 0), ([0, 7], 0), ([1, 7], 1), ([2, 7, 7], 2), ([2, 7, 7, 7], 2)]:
            reader = Reader(codes)
            self.assertEqual(reader.size(), size)
            self.assertEqual([reader.number() for _ in codes[1:]], codes[1:])
        for codes in [[], [1], [2, 7], [3, 7, 7], [10 ** 50, 7, 7]]:
            self.refused(Reader.size, codes)

    def test_texts(self):
        for text, codes in [("", [0]), ("a", [1, 97]), ("x\ny\t", [4, 120, 10, 121, 9])]:
            self.assertEqual(pack_text(text), codes)
            self.check(Reader.text, codes, text)
        self.check(Reader.text, pack_text(ALL_SIGNS), ALL_SIGNS)
        self.assertEqual(pack_text(ALL_SIGNS), [96] + [ord(sign) for sign in ALL_SIGNS])
        self.refused_with_others(Reader.text, [2, 97, 98], 2, [37, 0, 8, 31, 127, 10 ** 20])

    def test_paths(self):
        for path, codes in [((), [0]), (("a",), [1, 1, 97]), (("ab", "", "c"), [3, 2, 97, 98, 0, 1, 99])]:
            self.assertEqual(pack_path(path), codes)
            self.check(Reader.path, codes, path)
        # What is no name is not checked.
        self.check(Reader.path, [2, 0, 1, 47], ("", "/"))

    def test_ids(self):
        self.check(Reader.edit_id, [5, 2], (5, 2))
        self.check(Reader.edit_ids, [0], ())
        self.check(Reader.edit_ids, [2, 5, 2, 1, 0], ((5, 2), (1, 0)))
        self.check(Reader.maybe_id, [0], None)
        self.check(Reader.maybe_id, [1, 5, 2], (5, 2))
        self.refused_with_others(Reader.maybe_id, [1, 5, 2], 0, [2, 5])
        self.refused(Reader.edit_ids, [4, 5, 2, 1, 0])

    def test_marks(self):
        self.check(Reader.mark, MARK_CODES, MARK)
        self.check(Reader.mark, [0, 0, 0, 0], (0, 0, 0, False))
        self.refused_with_others(Reader.mark, MARK_CODES, 3, [2, 3])
        self.check(Reader.content, [0], None)
        self.check(Reader.content, [1, *MARK_CODES], MARK)
        self.refused_with_others(Reader.content, [1, *MARK_CODES], 0, [2, 3])

    def test_at_end(self):
        reader = Reader([1])
        self.assertIs(reader.at_end(), False)
        reader.number()
        self.assertIs(reader.at_end(), True)
        self.assertIs(Reader([]).at_end(), True)

    def test_the_list_is_not_changed_and_not_kept(self):
        codes = [1, 97, 2]
        reader = Reader(codes)
        codes[0] = 7
        self.assertEqual(reader.text(), "a")
        self.assertEqual(codes, [7, 97, 2])

    def test_values_of_true_and_false(self):
        self.assertIs(Reader([1, 2, 3, 1]).mark()[3], True)
        self.assertIs(Reader([1, 2, 3, 0]).mark()[3], False)


class Edits(Case):
    def test_each_kind(self):
        for edit, codes in EDITS:
            self.assertEqual(pack_edit(edit), codes)
            self.check(read_edit, codes, edit)

    def test_a_kind_that_does_not_exist(self):
        self.refused_with_others(read_edit, EDITS[4][1], 2, [3, 4, 10 ** 10])

    def test_wrong_flags(self):
        codes = EDITS[0][1]
        for at in [3, 14, 18, 19]:
            self.refused_with_others(read_edit, codes, at, [2, 9])

    def test_wrong_sizes_and_signs(self):
        codes = EDITS[0][1]
        for at in [6, 9, 22]:
            self.refused_with_others(read_edit, codes, at, [100, 10 ** 20])
        self.refused_with_others(read_edit, codes, 8, [37, 8])


class Lines(Case):
    def test_lines(self):
        for line, codes in LINES:
            self.assertEqual(pack_line(line), codes)
            self.check(read_line, codes, line)

    def test_wrong_flags(self):
        for at in [4, 12, 16]:
            self.refused_with_others(read_line, LINES[0][1], at, [2, 7])


class PlacedEntries(Case):
    def read(self, reader):
        entry = read_placed(reader)
        self.assertIsInstance(entry, Placed)
        return placed_row(entry)

    def test_with_and_without(self):
        for row, codes in [(ROW, ROW_CODES), (EMPTY_ROW, EMPTY_CODES)]:
            self.assertEqual(pack_placed(Placed(*row)), codes)
            self.check(self.read, codes, row)

    def test_each_thing_that_may_be_none(self):
        for at in [5, 7]:
            row = ROW[:at] + (None,) + ROW[at + 1:]
            self.check(self.read, pack_placed(Placed(*row)), row)

    def test_wrong_flags(self):
        for at in [11, 15, 21, 24]:
            self.refused_with_others(self.read, ROW_CODES, at, [2, 3])
        self.assertEqual([ROW_CODES[at] for at in [11, 15, 21, 24]], [1, 1, 1, 1])


class ShelvedEntries(Case):
    def read(self, reader):
        entry = read_shelved(reader)
        self.assertIsInstance(entry, Shelved)
        if entry.purpose[0] != "coming":
            self.assertIsInstance(entry.purpose[1], Placed)
        return shelved_row(entry)

    def test_each_purpose(self):
        for entry, codes in entries_of_the_shelf():
            self.assertEqual(pack_shelved(entry), codes)
            self.check(self.read, codes, shelved_row(entry))

    def test_a_kind_that_does_not_exist(self):
        self.refused_with_others(self.read, [1, 2, 3, 4, 5, 1, *EMPTY_CODES], 5, [4, 5, 10 ** 10])


class Operations(Case):
    def test_each_kind(self):
        self.assertEqual(sorted({codes[0] for _, codes in OPERATIONS}), list(range(13)))
        for operation, codes in OPERATIONS:
            self.assertEqual(pack_operation(operation), codes)
            self.check(read_operation, codes, operation)

    def test_a_kind_that_does_not_exist(self):
        for code in [13, 14, 10 ** 10]:
            self.refused(read_operation, [code, 0, 0, 0])

    def test_wrong_flags_and_signs(self):
        self.refused_with_others(read_operation, [6, 7, 2, 120, 121, 1], 5, [2])
        self.refused_with_others(read_operation, [6, 7, 2, 120, 121, 1], 4, [37, 200])


if __name__ == "__main__":
    unittest.main()
