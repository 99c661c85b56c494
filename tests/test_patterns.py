import random
import re
import unittest

from foldkeep.patterns import ignored, matches


class Matches(unittest.TestCase):
    def check(self, pattern, yes, no):
        for name in yes:
            self.assertIs(matches(pattern, name), True, (pattern, name))
        for name in no:
            self.assertIs(matches(pattern, name), False, (pattern, name))

    def test_empty_pattern(self):
        self.check("", [""], ["a", "*"])

    def test_without_stars(self):
        self.check("a.txt", ["a.txt"], ["a.txtx", "xa.txt", "a.tx", "", "axtxt", "A.txt"])

    def test_one_star(self):
        self.check("*", ["", "a", "abc", "*"], [])
        self.check("*.tmp", [".tmp", "a.tmp", "a.tmp.tmp"], ["a.tmp2", "tmp", "a.TMP"])
        self.check("a*", ["a", "ab", "a*"], ["ba", ""])
        self.check("a*b", ["ab", "axb", "abab", "a*b"], ["a", "b", "ba", "abc", "xab"])

    def test_what_stands_at_both_ends_does_not_overlap(self):
        self.check("aba*aba", ["abaaba", "abaxaba"], ["aba", "ababa"])
        self.check("a*a", ["aa", "aaa"], ["a"])

    def test_stars_side_by_side(self):
        self.check("**", ["", "a", "ab"], [])
        self.check("a***b", ["ab", "axxb"], ["a", "abx"])

    def test_stars_at_both_ends_and_in_the_middle(self):
        self.check("*a*", ["a", "xa", "ax", "xax"], ["", "x", "A"])
        self.check("*a*b*", ["ab", "xaybz", "aabb"], ["ba", "a", "b", "xbya"])
        self.check("a*b*c", ["abc", "axbxc", "abcbc"], ["acb", "ab", "ac", "abcd", "acbx"])

    def test_middles_do_not_overlap(self):
        self.check("*aba*aba*", ["abaaba", "xabaxabax"], ["ababa", "aba"])
        self.check("x*ab*b", ["xabb", "xabab"], ["xab"])
        self.check("b*ba*x", ["bbax"], ["bax"])

    def test_other_characters_stand_for_themselves(self):
        for sign in ["?", "[a]", ".", "+", "\\", "^", "$", "(a)", "a|b", "{1}"]:
            self.check(sign, [sign], ["a", "b", "", sign + sign])
        self.check("?*", ["?", "?a"], ["a"])

    def test_case(self):
        self.check("*.Txt", ["a.Txt"], ["a.txt", "a.TXT"])

    def test_long_patterns_with_many_stars(self):
        name = "a" * 100
        self.assertFalse(matches("*a" * 60 + "*b", name))
        self.assertTrue(matches("*a" * 60 + "*", name))
        self.assertTrue(matches("*a" * 100, name))
        self.assertFalse(matches("*a" * 101, name))
        self.assertFalse(matches("a*" * 50 + "b" + "*a" * 20, name))
        self.assertFalse(matches("*" * 5000 + "b", name * 50))
        self.assertTrue(matches("*a" * 3000 + "*", name * 50))
        self.assertFalse(matches("*aab" * 900 + "*", "aaab" * 899))

    def test_against_regular_expressions(self):
        chance = random.Random(7)
        for _ in range(5000):
            pattern = "".join(chance.choice("ab**") for _ in range(chance.randrange(8)))
            name = "".join(chance.choice("ab") for _ in range(chance.randrange(9)))
            expected = re.fullmatch(pattern.replace("*", ".*"), name) is not None
            self.assertEqual(matches(pattern, name), expected, (pattern, name))


class Ignored(unittest.TestCase):
    def test_no_patterns(self):
        self.assertIs(ignored((), "a"), False)
        self.assertIs(ignored([], ""), False)

    def test_any_pattern_counts(self):
        patterns = ("*.tmp", "~*", "b")
        for name in ["a.tmp", "~a", "b"]:
            self.assertIs(ignored(patterns, name), True, name)
        for name in ["a.tmp2", "a~", "bb", ""]:
            self.assertIs(ignored(patterns, name), False, name)

    def test_the_empty_pattern(self):
        self.assertFalse(ignored(("",), "a"))
        self.assertTrue(ignored(("",), ""))

    def test_patterns_are_not_changed(self):
        patterns = ["a*", "b"]
        ignored(patterns, "b")
        self.assertEqual(patterns, ["a*", "b"])


if __name__ == "__main__":
    unittest.main()
