"""bares: how many bare changes there are."""

import unittest

from asking import BIRDS, Asked, bytes_of
from rulechange.desk import bares

STANDS, STANDS_NOT, FALLS, NEITHER = range(4)


class BirdsTest(unittest.TestCase):
    """Rules: flies 0, flies-not 1, which outweighs it. Literals: fly 6, its opposite 7."""

    def test_the_whole_answer(self):
        t = bytes_of(BIRDS)
        self.assertEqual([bares(3, 3, 6, what, t) for what in range(4)], [[0, 1], [0, 1], [0, 1], [0, 1]])
        self.assertEqual([bares(1, 3, 6, what, t) for what in range(4)], [[0, 1], [0, 2], [0, 1], [0, 1]])
        self.assertEqual([bares(0, 3, 6, what, t) for what in range(4)], [[0, 1], [0, 1], [0, 1], [0, 1]])
        self.assertEqual([bares(3, 3, 0, what, t) for what in range(4)], [[0, 1], [0, 0], [0, 0], [0, 0]])
        self.assertEqual([bares(1, may, 6, 1, t) for may in range(4)], [[0, 0], [0, 1], [0, 1], [0, 2]])


class CountTest(unittest.TestCase):
    def test_none(self):
        asked = Asked("law l: -> q\nrule a: => p\nrule b: => ~p\n")
        for may in ("", "a", "b", "ab"):
            self.assertEqual(asked.bares("ab", may, "q", STANDS_NOT), 0)
            self.assertEqual(asked.bares("ab", may, "q", FALLS), 0)
            self.assertEqual(asked.bares("a", may, "q", NEITHER), 0)
            self.assertEqual(asked.bares("", may, "~q", STANDS), 0)
        self.assertEqual(asked.bares("ab", "", "p", STANDS), 0)
        self.assertEqual(asked.bares("ab", "a", "p", STANDS), 0)

    def test_one(self):
        asked = Asked("rule a: => p\nrule b: => ~p\nrule c: => q\n")
        self.assertEqual(asked.bares("ab", "abc", "p", STANDS), 1)
        self.assertEqual(asked.bares("ab", "b", "p", STANDS), 1)
        self.assertEqual(asked.bares("", "abc", "p", STANDS), 1)
        self.assertEqual(asked.bares("bc", "abc", "p", STANDS), 1)

    def test_the_empty_change_is_the_only_one_where_the_goal_is_so_already(self):
        asked = Asked("rule a: => p\nrule b: => ~p\nrule c: => q\n")
        for may in ("", "a", "bc", "abc"):
            self.assertEqual(asked.bares("ac", may, "p", STANDS), 1)
            self.assertEqual(asked.bares("abc", may, "p", STANDS_NOT), 1)
            self.assertEqual(asked.bares("b", may, "p", FALLS), 1)
            self.assertEqual(asked.bares("", may, "p", NEITHER), 1)

    def test_several_of_one_size(self):
        text = "law l: -> u\nlaw m: -> v\nrule a: => p\nrule b: u => p\nrule c: v => p\nrule d: => q\n"
        asked = Asked(text)
        self.assertEqual(asked.bares("", "abcd", "p", STANDS), 3)
        self.assertEqual(asked.bares("d", "bcd", "p", STANDS), 2)
        self.assertEqual(asked.bares("abcd", "abcd", "p", STANDS_NOT), 1)
        self.assertEqual(asked.bares("", "d", "p", STANDS), 0)

    def test_several_of_different_sizes(self):
        # z alone, a and b, c and d and e.
        rows = ["a: => v", "b: v => p", "c: => w", "d: w => x", "e: x => p", "z: => p"]
        asked = Asked("".join(f"rule {row}\n" for row in rows))
        self.assertEqual(asked.bares("", "abcdez", "p", STANDS), 3)
        self.assertEqual(asked.bares("", "abcde", "p", STANDS), 2)
        self.assertEqual(asked.bares("", "bcdez", "p", STANDS), 2)
        self.assertEqual(asked.bares("c", "abdez", "p", STANDS), 3)
        # One of a and b, one of c, d and e, and z, are left out.
        self.assertEqual(asked.bares("abcdez", "abcdez", "p", STANDS_NOT), 6)
        self.assertEqual(asked.bares("abcdez", "acdz", "p", STANDS_NOT), 2)
        self.assertEqual(asked.bares("abcdez", "abcde", "p", STANDS_NOT), 0)

    def test_left_out_and_found(self):
        # From ab, p stands with b left out, or with c found.
        text = "rule a: => p\nrule b: => ~p\nlaw l: c -> ~b\nrule c: => r\nweigh b > a\nweigh c > b\n"
        asked = Asked(text)
        self.assertEqual(asked.bares("ab", "abc", "p", STANDS), 2)
        self.assertEqual(asked.bares("ab", "ac", "p", STANDS), 1)
        self.assertEqual(asked.bares("b", "abc", "p", STANDS), 2)
        self.assertEqual(asked.bares("ab", "abc", "p", FALLS), 1)
        self.assertEqual(asked.bares("ab", "abc", "p", NEITHER), 2)
        self.assertEqual(asked.bares("a", "abc", "p", FALLS), 1)
        self.assertEqual(asked.bares("a", "abc", "p", STANDS_NOT), 2)

    def test_a_case_without_rules(self):
        t = bytes_of("law l: -> p\nlaw m: q -> ~p\n")
        self.assertEqual([bares(0, 0, 0, what, t) for what in range(4)], [[0, 1], [0, 0], [0, 0], [0, 0]])


class PartsTest(unittest.TestCase):
    TEXT = "law f: -> u\nlaw g: -> v\nlaw h: a -> ~b\nrule a: u => q\nrule b: v => q\nrule d: => q\n"

    def test_a_part_does_and_those_between_do_not(self):
        asked = Asked(self.TEXT)
        told = {left: asked.goal(left, "q", STANDS_NOT) for left in ("d", "", "a", "b", "ab", "ad", "bd", "abd")}
        # Of d there, the changes d and abd do; ad, bd, ab, a, b and none don't.
        self.assertEqual(told, {"d": 0, "": 1, "a": 0, "b": 0, "ab": 1, "ad": 0, "bd": 0, "abd": 0})
        self.assertEqual(asked.bares("d", "abd", "q", STANDS_NOT), 1)

    def test_the_empty_part_does_and_those_between_do_not(self):
        asked = Asked(self.TEXT)
        self.assertEqual(asked.bares("", "ab", "q", STANDS_NOT), 1)
        self.assertEqual(asked.bares("ab", "ab", "q", STANDS_NOT), 1)

    def test_what_may_not_change(self):
        asked = Asked(self.TEXT)
        told = [asked.bares("a", may, "q", STANDS_NOT) for may in ("", "d", "b", "bd", "a", "ab", "abd")]
        self.assertEqual(told, [0, 0, 1, 1, 1, 2, 2])
        self.assertEqual(asked.bares("d", "ab", "q", STANDS_NOT), 0)


if __name__ == "__main__":
    unittest.main()
