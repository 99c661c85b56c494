import unittest

from foldkeep.names import Rule, fits, is_name, path_text, read_path, same_name


class Names(unittest.TestCase):
    def test_length(self):
        self.assertFalse(is_name(""))
        self.assertTrue(is_name("a"))
        self.assertTrue(is_name("a" * 100))
        self.assertFalse(is_name("a" * 101))

    def test_dots(self):
        self.assertFalse(is_name("."))
        self.assertFalse(is_name(".."))
        self.assertTrue(is_name("..."))
        self.assertTrue(is_name(".a"))
        self.assertTrue(is_name("a."))

    def test_slash(self):
        for text in ["/", "/a", "a/", "a/b"]:
            self.assertFalse(is_name(text), text)

    def test_code_points(self):
        self.assertFalse(is_name(chr(31)))
        self.assertFalse(is_name("a" + chr(31)))
        self.assertFalse(is_name(chr(0) + "a"))
        self.assertFalse(is_name("a" + chr(0) + "b"))
        self.assertFalse(is_name("a\n"))
        self.assertTrue(is_name(chr(32)))
        self.assertTrue(is_name(" a "))
        for point in [33, 46 + 1 + 1, 126, 127, 128, 255, 0xE9, 0x4E2D, 0x1F600]:
            self.assertTrue(is_name("a" + chr(point)), point)
        self.assertTrue(is_name("\u00e9" * 100))
        self.assertFalse(is_name("\u00e9" * 101))

    def test_the_answer_is_true_or_false(self):
        self.assertIs(is_name("a"), True)
        self.assertIs(is_name(""), False)


class Paths(unittest.TestCase):
    def test_root(self):
        self.assertEqual(path_text(()), "")
        self.assertEqual(read_path(""), ())

    def test_one_and_several_names(self):
        self.assertEqual(path_text(("a",)), "a")
        self.assertEqual(path_text(("a", "b c", "...")), "a/b c/...")
        self.assertEqual(read_path("a"), ("a",))
        self.assertEqual(read_path("a/b c"), ("a", "b c"))
        self.assertIsInstance(read_path("a/b/c"), tuple)

    def test_empty_parts(self):
        for text in ["/", "/a", "a/", "a//b", "//", "a/b/"]:
            self.assertIsNone(read_path(text), text)

    def test_parts_that_are_no_names(self):
        for text in [".", "..", "a/.", "./a", "a/../b", "a" * 101, "b/" + "a" * 101, "a\n", "a/" + chr(31)]:
            self.assertIsNone(read_path(text), text)
        self.assertEqual(read_path("a" * 100 + "/b"), ("a" * 100, "b"))

    def test_each_undoes_the_other(self):
        for path in [(), ("a",), ("a", "b"), ("...", " ", "\u00e9"), ("x" * 100,) * 7]:
            self.assertEqual(read_path(path_text(path)), path)
        for text in ["", "a", "a/b/c", " / ", ".a/b."]:
            self.assertEqual(path_text(read_path(text)), text)


class Rules(unittest.TestCase):
    def test_defaults(self):
        rule = Rule()
        self.assertEqual(rule.alike, ())
        self.assertEqual(rule.unfit, ())
        self.assertEqual(rule.longest, 80)
        for flag in [rule.swaps, rule.reads, rule.cuts, rule.turns]:
            self.assertIs(flag, True)

    def test_arguments_are_attributes(self):
        rule = Rule(alike=("Aa", "Bb"), unfit=("con",), longest=48, swaps=False, reads=False, cuts=False, turns=False)
        self.assertEqual(rule.alike, ("Aa", "Bb"))
        self.assertEqual(rule.unfit, ("con",))
        self.assertEqual(rule.longest, 48)
        for flag in [rule.swaps, rule.reads, rule.cuts, rule.turns]:
            self.assertIs(flag, False)

    def test_each_flag_is_its_own(self):
        for name in ["swaps", "reads", "cuts", "turns"]:
            rule = Rule(**{name: False})
            for other in ["swaps", "reads", "cuts", "turns"]:
                self.assertEqual(getattr(rule, other), other != name)

    def test_by_keyword_only(self):
        with self.assertRaises(TypeError):
            Rule(("Aa",))


class Alike(unittest.TestCase):
    def test_without_pairs(self):
        self.assertTrue(same_name(Rule(), "a", "a"))
        self.assertFalse(same_name(Rule(), "a", "A"))
        self.assertIs(same_name(Rule(), "a", "a"), True)
        self.assertIs(same_name(Rule(), "a", "b"), False)

    def test_a_pair(self):
        rule = Rule(alike=("Aa",))
        self.assertTrue(same_name(rule, "A", "a"))
        self.assertTrue(same_name(rule, "a", "A"))
        self.assertTrue(same_name(rule, "xAa", "xaA"))
        self.assertFalse(same_name(rule, "B", "b"))
        self.assertFalse(same_name(rule, "Aa", "aB"))

    def test_two_characters_that_count_as_one(self):
        rule = Rule(alike=("Aa", "@a"))
        self.assertTrue(same_name(rule, "A", "@"))

    def test_pairs_that_lead_on_are_counted_once(self):
        rule = Rule(alike=("ab", "bc"))
        self.assertFalse(same_name(rule, "a", "c"))
        self.assertFalse(same_name(rule, "a", "b"))
        self.assertTrue(same_name(rule, "b", "c"))
        backwards = Rule(alike=("bc", "ab"))
        self.assertFalse(same_name(backwards, "a", "c"))
        self.assertFalse(same_name(backwards, "a", "b"))

    def test_pairs_that_change_places(self):
        rule = Rule(alike=("ab", "ba"))
        self.assertFalse(same_name(rule, "a", "b"))
        self.assertTrue(same_name(rule, "ab", "ab"))

    def test_the_first_pair_with_a_character_counts(self):
        rule = Rule(alike=("ax", "ay"))
        self.assertTrue(same_name(rule, "a", "x"))
        self.assertFalse(same_name(rule, "a", "y"))

    def test_length(self):
        rule = Rule(alike=("Aa",))
        self.assertFalse(same_name(rule, "a", "aa"))
        self.assertFalse(same_name(rule, "Aa", "a"))
        self.assertFalse(same_name(rule, "", "a"))
        self.assertTrue(same_name(rule, "", ""))

    def test_position_by_position(self):
        rule = Rule(alike=("Aa",))
        self.assertFalse(same_name(rule, "Ab", "bA"))


class Fits(unittest.TestCase):
    def test_example(self):
        self.assertFalse(fits(Rule(alike=("Aa",), unfit=("an",)), "An"))

    def test_longest(self):
        for longest in [48, 80, 100]:
            self.assertTrue(fits(Rule(longest=longest), "a" * longest))
            self.assertFalse(fits(Rule(longest=longest), "a" * (longest + 1)))
        self.assertTrue(fits(Rule(), "a" * 80))
        self.assertFalse(fits(Rule(), "a" * 81))

    def test_no_name_fits_not(self):
        for text in ["", ".", "..", "a/b", "\n", "a" * 101]:
            self.assertFalse(fits(Rule(longest=100), text), text)

    def test_unfit_names(self):
        rule = Rule(alike=("Cc", "Oo", "Nn"), unfit=("aux", "con"))
        self.assertFalse(fits(rule, "con"))
        self.assertFalse(fits(rule, "aux"))
        self.assertFalse(fits(rule, "COn"))
        self.assertTrue(fits(rule, "AUX"))
        self.assertTrue(fits(rule, "cons"))
        self.assertTrue(fits(rule, "con.txt"))
        self.assertTrue(fits(rule, "co"))
        self.assertFalse(fits(Rule(alike=("Cc",), unfit=("Con",)), "con"))

    def test_the_answer_is_true_or_false(self):
        self.assertIs(fits(Rule(), "a"), True)
        self.assertIs(fits(Rule(), ""), False)
        self.assertIs(fits(Rule(unfit=("a",)), "a"), False)


if __name__ == "__main__":
    unittest.main()
