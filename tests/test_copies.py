import unittest

from foldkeep.copies import copy_name, ending, numbered_name, stem


class Endings(unittest.TestCase):
    def check(self, name, first, last):
        self.assertEqual((stem(name), ending(name)), (first, last))
        self.assertEqual(stem(name) + ending(name), name)

    def test_no_dot(self):
        self.check("notes", "notes", "")

    def test_one_dot(self):
        self.check("notes.txt", "notes", ".txt")

    def test_dot_first(self):
        self.check(".profile", ".profile", "")
        self.check(".", ".", "")

    def test_dot_second(self):
        self.check("a.b", "a", ".b")
        self.check("..b", ".", ".b")

    def test_dot_last(self):
        self.check("notes.", "notes", ".")

    def test_several_dots(self):
        self.check("a.tar.gz", "a.tar", ".gz")
        self.check(".a.b", ".a", ".b")
        self.check("...", "..", ".")

    def test_most_of_an_ending(self):
        self.check("a.123456789", "a", ".123456789")
        self.check("a.1234567890", "a.1234567890", "")

    def test_only_the_last_dot_counts(self):
        self.check("a.b.1234567890", "a.b.1234567890", "")

    def test_empty(self):
        self.check("", "", "")


class CopyNames(unittest.TestCase):
    def test_example(self):
        self.assertEqual(copy_name(80, "notes.txt", (12, 3), 1), "notes (12-3) 1.txt")

    def test_k(self):
        self.assertEqual(copy_name(80, "notes.txt", (12, 3), 0), "notes (12-3).txt")
        self.assertEqual(copy_name(80, "notes.txt", (12, 3), 2), "notes (12-3) 2.txt")
        self.assertEqual(copy_name(80, "notes.txt", (12, 3), 1234567), "notes (12-3) 1234567.txt")

    def test_without_an_ending(self):
        self.assertEqual(copy_name(80, "notes", (1, 0), 0), "notes (1-0)")
        self.assertEqual(copy_name(80, ".profile", (1, 0), 3), ".profile (1-0) 3")

    def test_an_empty_name(self):
        self.assertEqual(copy_name(80, "", (1, 0), 0), " (1-0)")

    def test_exactly_as_long_as_longest(self):
        name = "a" * 38 + ".txt"
        self.assertEqual(copy_name(48, name, (1, 0), 0), "a" * 38 + " (1-0).txt")
        self.assertEqual(len(copy_name(48, name, (1, 0), 0)), 48)

    def test_one_longer(self):
        name = "a" * 38 + "b.txt"
        self.assertEqual(copy_name(48, name, (1, 0), 0), "a" * 38 + " (1-0).txt")

    def test_the_k_takes_room_too(self):
        name = "a" * 36 + "bc.txt"
        self.assertEqual(copy_name(48, name, (1, 0), 7), "a" * 36 + " (1-0) 7.txt")

    def test_much_longer(self):
        name = "abcde" * 19 + ".txt"
        made = copy_name(48, name, (1, 0), 0)
        self.assertEqual(made, ("abcde" * 19)[:38] + " (1-0).txt")
        self.assertEqual(copy_name(48, "abcde" * 20, (1, 0), 0), ("abcde" * 20)[:42] + " (1-0)")

    def test_long_ids(self):
        number = (4294967295, 4294967295)
        made = copy_name(48, "a" * 60 + ".123456789", number, 0)
        self.assertEqual(made, "a" * 14 + " (4294967295-4294967295).123456789")
        self.assertEqual(len(made), 48)

    def test_a_word_that_leaves_no_room(self):
        number = (10 ** 30, 10 ** 20)
        word = " (" + str(10 ** 30) + "-" + str(10 ** 20) + ")"
        self.assertEqual(copy_name(48, "notes.txt", number, 0), word + ".txt")

    def test_exactly_no_room(self):
        number = (10 ** 19, 10 ** 19)
        word = " (" + str(10 ** 19) + "-" + str(10 ** 19) + ")"
        self.assertEqual(len(word), 44)
        self.assertEqual(copy_name(48, "notes.txt", number, 0), word + ".txt")
        self.assertEqual(copy_name(49, "notes.txt", number, 0), "n" + word + ".txt")


class NumberedNames(unittest.TestCase):
    def test_nought_is_the_name(self):
        self.assertEqual(numbered_name(80, "notes.txt", 0), "notes.txt")
        self.assertEqual(numbered_name(48, "a" * 90 + ".txt", 0), "a" * 90 + ".txt")

    def test_k(self):
        self.assertEqual(numbered_name(80, "notes.txt", 1), "notes 1.txt")
        self.assertEqual(numbered_name(80, "notes", 20), "notes 20")
        self.assertEqual(numbered_name(80, "notes.txt", 1234567), "notes 1234567.txt")

    def test_longest(self):
        self.assertEqual(numbered_name(48, "a" * 42 + ".txt", 1), "a" * 42 + " 1.txt")
        self.assertEqual(numbered_name(48, "a" * 43 + ".txt", 1), "a" * 42 + " 1.txt")
        self.assertEqual(numbered_name(48, "a" * 42 + ".txt", 10), "a" * 41 + " 10.txt")
        self.assertEqual(numbered_name(48, "ab" * 50, 1), "ab" * 23 + " 1")

    def test_a_number_that_leaves_no_room(self):
        self.assertEqual(numbered_name(48, "notes.txt", 10 ** 60), " " + str(10 ** 60) + ".txt")


if __name__ == "__main__":
    unittest.main()
