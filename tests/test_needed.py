"""needed: the rules in every change that does, and those in some bare one."""

import unittest

from asking import BIRDS, Asked, bytes_of
from rulechange.desk import needed

STANDS, STANDS_NOT, FALLS, NEITHER = range(4)
NONE_DOES = -3


class BirdsTest(unittest.TestCase):
    """Rules: flies 0, flies-not 1, which outweighs it. Literals: fly 6, its opposite 7."""

    def test_the_whole_answer(self):
        t = bytes_of(BIRDS)
        self.assertEqual([needed(3, 3, 6, what, t) for what in range(4)], [[0, 2, 2], [0, 0, 0], [0, 0, 0], [0, 3, 3]])
        self.assertEqual([needed(1, 3, 6, what, t) for what in range(4)], [[0, 0, 0], [0, 0, 3], [0, 2, 2], [0, 1, 1]])
        self.assertEqual([needed(2, 3, 7, what, t) for what in range(4)], [[0, 0, 0], [0, 2, 2], [0, 3, 3], [0, 2, 2]])
        self.assertEqual([needed(1, may, 6, 1, t) for may in range(4)], [[-3], [0, 1, 1], [0, 2, 2], [0, 0, 3]])
        self.assertEqual([needed(3, 3, 0, what, t) for what in range(4)], [[0, 0, 0], [-3], [-3], [-3]])


class NoneDoesTest(unittest.TestCase):
    def test_where_none_may_change(self):
        asked = Asked("rule a: => p\nrule b: => ~p\nrule c: => q\n")
        self.assertEqual(asked.needed("abc", "", "p", STANDS), NONE_DOES)
        self.assertEqual(asked.needed("ac", "", "p", STANDS_NOT), NONE_DOES)
        self.assertEqual(asked.needed("ac", "", "p", FALLS), NONE_DOES)
        self.assertEqual(asked.needed("b", "", "p", NEITHER), NONE_DOES)

    def test_where_what_may_change_is_not_enough(self):
        asked = Asked("rule a: => p\nrule b: => ~p\nrule c: => q\n")
        self.assertEqual(asked.needed("abc", "ac", "p", STANDS), NONE_DOES)
        self.assertEqual(asked.needed("ac", "bc", "p", FALLS), NONE_DOES)

    def test_where_laws_forbid_it(self):
        asked = Asked("law l: -> q\nlaw m: q -> ~a\nrule a: => p\nrule b: p => r\n")
        for rules in ("", "a", "b", "ab"):
            self.assertEqual(asked.needed(rules, "ab", "r", STANDS), NONE_DOES)
            self.assertEqual(asked.needed(rules, "ab", "q", STANDS_NOT), NONE_DOES)
            self.assertEqual(asked.needed(rules, "ab", "a", NEITHER), NONE_DOES)


class TwoSetsTest(unittest.TestCase):
    def test_where_the_goal_is_so_already(self):
        asked = Asked("rule a: => p\nrule b: => ~p\nrule c: => q\n")
        for may in ("", "a", "bc", "abc"):
            self.assertEqual(asked.needed("ac", may, "p", STANDS), ("", ""))
            self.assertEqual(asked.needed("abc", may, "p", STANDS_NOT), ("", ""))
            self.assertEqual(asked.needed("b", may, "p", FALLS), ("", ""))
            self.assertEqual(asked.needed("", may, "p", NEITHER), ("", ""))

    def test_one_bare_change_is_both_sets(self):
        asked = Asked("rule a: => p\nrule b: => ~p\nrule c: => q\n")
        self.assertEqual(asked.needed("abc", "abc", "p", STANDS), ("b", "b"))
        self.assertEqual(asked.needed("b", "abc", "p", STANDS), ("ab", "ab"))
        self.assertEqual(asked.needed("abc", "ab", "p", FALLS), ("a", "a"))
        self.assertEqual(asked.needed("a", "abc", "p", FALLS), ("ab", "ab"))

    def test_several_that_share_none(self):
        # z alone, a and b, c and d and e.
        rows = ["a: => v", "b: v => p", "c: => w", "d: w => x", "e: x => p", "z: => p"]
        asked = Asked("".join(f"rule {row}\n" for row in rows))
        self.assertEqual(asked.needed("", "abcdez", "p", STANDS), ("", "abcdez"))
        self.assertEqual(asked.needed("", "abcde", "p", STANDS), ("", "abcde"))
        self.assertEqual(asked.needed("", "abcd", "p", STANDS), ("ab", "ab"))
        self.assertEqual(asked.needed("bd", "abcdez", "p", STANDS), ("", "acez"))

    def test_several_that_share_rules(self):
        rows = ["a: => v", "b: v => p", "c: => w", "d: w => x", "e: x => p", "z: => p"]
        asked = Asked("".join(f"rule {row}\n" for row in rows))
        self.assertEqual(asked.needed("abcdez", "abcdez", "p", STANDS_NOT), ("z", "abcdez"))
        self.assertEqual(asked.needed("abcdez", "bcdz", "p", STANDS_NOT), ("bz", "bcdz"))
        self.assertEqual(asked.needed("abcdez", "bdz", "p", STANDS_NOT), ("bdz", "bdz"))

    def test_a_rule_that_is_in_no_bare_change(self):
        # n changes nothing; it is in some changes that do, but in no bare one.
        asked = Asked("law f: -> u\nrule a: => p\nrule b: u => p\nrule n: => q\n")
        self.assertEqual(asked.needed("", "abn", "p", STANDS), ("", "ab"))
        self.assertEqual(asked.needed("ab", "abn", "p", STANDS_NOT), ("ab", "ab"))

    def test_rules_of_changes_that_do_but_are_not_bare(self):
        # From d there, d does, and so does abd: a and b are in no bare change.
        text = "law f: -> u\nlaw g: -> v\nlaw h: a -> ~b\nrule a: u => q\nrule b: v => q\nrule d: => q\n"
        self.assertEqual(Asked(text).needed("d", "abd", "q", STANDS_NOT), ("d", "d"))
        self.assertEqual(Asked(text).needed("a", "abd", "q", STANDS_NOT), ("", "ab"))

    def test_left_out_and_found(self):
        text = "rule a: => p\nrule b: => ~p\nlaw l: c -> ~b\nrule c: => r\nweigh b > a\nweigh c > b\n"
        asked = Asked(text)
        self.assertEqual(asked.needed("ab", "abc", "p", STANDS), ("", "bc"))
        self.assertEqual(asked.needed("ab", "abc", "p", NEITHER), ("a", "abc"))
        self.assertEqual(asked.needed("b", "abc", "p", STANDS), ("a", "abc"))
        self.assertEqual(asked.needed("ab", "ac", "p", STANDS), ("c", "c"))
        self.assertEqual(asked.needed("ac", "abc", "p", FALLS), ("bc", "bc"))

    def test_a_case_without_rules(self):
        t = bytes_of("law l: -> p\nlaw m: q -> ~p\n")
        self.assertEqual([needed(0, 0, 0, what, t) for what in range(4)], [[0, 0, 0], [-3], [-3], [-3]])


if __name__ == "__main__":
    unittest.main()
