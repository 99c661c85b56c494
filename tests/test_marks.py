import unittest

from foldkeep.marks import MOST_PIECE, checksum, mark_of, piece_of


class Checksums(unittest.TestCase):
    def test_empty(self):
        self.assertEqual(checksum("", 257), 0)
        self.assertEqual(checksum("", 65599), 0)

    def test_one_character(self):
        self.assertEqual(checksum("a", 257), 98)
        self.assertEqual(checksum("a", 65599), 98)
        self.assertEqual(checksum(" ", 257), 33)
        self.assertEqual(checksum("\n", 257), 11)

    def test_several(self):
        self.assertEqual(checksum("ab", 257), 98 * 257 + 99)
        self.assertEqual(checksum("ba", 257), 99 * 257 + 98)
        self.assertEqual(checksum("ab", 65599), 98 * 65599 + 99)
        self.assertEqual(checksum("a\t\n", 257), (98 * 257 + 10) * 257 + 11)

    def test_another_factor(self):
        self.assertEqual(checksum("ab", 10), 1079)
        self.assertEqual(checksum("ab", 0), 99)

    def test_past_the_modulus(self):
        text = "abc"
        whole = (98 * 65599 + 99) * 65599 + 100
        self.assertGreater(whole, 4294967291)
        self.assertEqual(checksum(text, 65599), whole - whole // 4294967291 * 4294967291)
        self.assertEqual(checksum(text, 257), (98 * 257 + 99) * 257 + 100)
        # A sum that comes to the modulus itself, and to one less, with a factor that leads there.
        self.assertEqual(checksum(chr(0) + chr(0), 4294967290), 0)
        self.assertEqual(checksum(chr(0) + chr(0), 4294967289), 4294967290)

    def test_a_long_text(self):
        text = "The quick brown fox jumps over the lazy dog.\n" * 300
        low = high = 0
        for sign in text:
            low = (low * 257 + ord(sign) + 1) % 4294967291
            high = (high * 65599 + ord(sign) + 1) % 4294967291
        self.assertEqual(checksum(text, 257), low)
        self.assertEqual(checksum(text, 65599), high)


class Marks(unittest.TestCase):
    def test_empty(self):
        self.assertEqual(mark_of("", False), (0, 0, 0, False))
        self.assertEqual(mark_of("", True), (0, 0, 0, True))

    def test_one_and_several(self):
        self.assertEqual(mark_of("a", False), (1, 98, 98, False))
        self.assertEqual(mark_of("ab", False), (2, 25285, 6428801, False))
        self.assertEqual(mark_of("a\tb\n", True), (4, checksum("a\tb\n", 257), checksum("a\tb\n", 65599), True))

    def test_it_is_a_tuple_with_a_flag(self):
        self.assertIsInstance(mark_of("a", True), tuple)
        self.assertIs(mark_of("a", True)[3], True)
        self.assertIs(mark_of("a", False)[3], False)

    def test_texts_that_differ_in_one_character(self):
        texts = ["", "a", "b", "a ", " a", "aa", "ab", "a\n", "a\t", "abc", "abd", "acb"]
        marks = [mark_of(text, False) for text in texts]
        self.assertEqual(len(set(marks)), len(texts))
        long = "x" * 5000
        self.assertNotEqual(mark_of(long, False), mark_of(long[:2500] + "y" + long[2501:], False))

    def test_equal_texts_have_equal_marks(self):
        self.assertEqual(mark_of("one", False), mark_of("o" + "ne", False))
        self.assertNotEqual(mark_of("one", False), mark_of("one", True))


class Pieces(unittest.TestCase):
    def test_most(self):
        self.assertEqual(MOST_PIECE, 4096)

    def test_starts(self):
        text = "".join(chr(33 + at % 90) for at in range(10000))
        for start in [0, 1, 17, 4095, 4096, 4097, 5904, 5905, 8192, 9999]:
            piece = piece_of(text, start)
            self.assertEqual(piece, text[start:min(start + 4096, 10000)], start)
            self.assertEqual(len(piece), min(4096, 10000 - start))

    def test_at_the_end_and_beyond(self):
        self.assertEqual(piece_of("abc", 2), "c")
        for start in [3, 4, 4096, 10 ** 9]:
            self.assertEqual(piece_of("abc", start), "")
        self.assertEqual(piece_of("", 0), "")
        self.assertEqual(piece_of("", 1), "")

    def test_joined_they_are_the_text(self):
        for length, many in [(0, 0), (1, 1), (4095, 1), (4096, 1), (4097, 2), (8192, 2), (8193, 3)]:
            text = "".join(chr(33 + at % 89) for at in range(length))
            pieces = []
            while piece_of(text, 4096 * len(pieces)) != "":
                pieces.append(piece_of(text, 4096 * len(pieces)))
            self.assertEqual(len(pieces), many)
            self.assertEqual("".join(pieces), text)
            self.assertTrue(all(len(piece) <= 4096 for piece in pieces))


if __name__ == "__main__":
    unittest.main()
