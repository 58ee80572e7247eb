"""bare: the bare changes, in order, from one of them on."""

import unittest

from asking import BIRDS, LARGE, Asked, bytes_of
from rulechange.desk import bare, bares

STANDS, STANDS_NOT, FALLS, NEITHER = range(4)

# From none, p stands with z, with a and b, with c and d and e.
WAYS = "".join(
    f"rule {row}\n" for row in ("a: => v", "b: v => p", "c: => w", "d: w => x", "e: x => p", "z: => p")
)


class BirdsTest(unittest.TestCase):
    """Rules: flies 0, flies-not 1, which outweighs it. Literals: fly 6, its opposite 7."""

    def all(self, w, may, literal, what):
        return bare(w, may, literal, what, 0, LARGE, bytes_of(BIRDS))

    def test_the_whole_answer(self):
        self.assertEqual([self.all(3, 3, 6, what) for what in range(4)], [[0, 2], [0, 0], [0, 0], [0, 3]])
        self.assertEqual([self.all(1, 3, 6, what) for what in range(4)], [[0, 0], [0, 1, 2], [0, 2], [0, 1]])
        self.assertEqual([self.all(3, 3, 0, what) for what in range(4)], [[0, 0], [0], [0], [0]])
        self.assertEqual([self.all(1, may, 6, 1) for may in range(4)], [[0], [0, 1], [0, 2], [0, 1, 2]])

    def test_none_that_does_is_no_refusal(self):
        for start in (0, 1, LARGE):
            for most in (0, 1, LARGE):
                self.assertEqual(bare(3, 0, 6, 0, start, most, bytes_of(BIRDS)), [0])
                self.assertEqual(bare(3, 3, 0, 1, start, most, bytes_of(BIRDS)), [0])


class OrderTest(unittest.TestCase):
    def test_one(self):
        asked = Asked("rule a: => p\nrule b: => ~p\nrule c: => q\n")
        self.assertEqual(asked.bare("ab", "abc", "p", STANDS), ["b"])
        self.assertEqual(asked.bare("b", "abc", "p", STANDS), ["ab"])

    def test_the_empty_change_alone_where_the_goal_is_so_already(self):
        asked = Asked("rule a: => p\nrule b: => ~p\nrule c: => q\n")
        for may in ("", "a", "bc", "abc"):
            self.assertEqual(asked.bare("ac", may, "p", STANDS), [""])
            self.assertEqual(asked.bare("abc", may, "p", STANDS_NOT), [""])
            self.assertEqual(asked.bare("b", may, "p", FALLS), [""])
            self.assertEqual(asked.bare("", may, "p", NEITHER), [""])

    def test_fewer_rules_first(self):
        asked = Asked(WAYS)
        self.assertEqual(asked.bare("", "abcdez", "p", STANDS), ["z", "ab", "cde"])
        self.assertEqual(asked.bare("", "abcde", "p", STANDS), ["ab", "cde"])
        self.assertEqual(asked.bare("cd", "abcdez", "p", STANDS), ["e", "z", "ab"])
        self.assertEqual(asked.bare("cd", "abez", "p", STANDS), ["e", "z", "ab"])

    def test_of_as_many_rules_by_numbers(self):
        asked = Asked(WAYS)
        self.assertEqual(asked.bare("abcdez", "abcdez", "p", STANDS_NOT), ["acz", "bcz", "adz", "bdz", "aez", "bez"])
        text = "law l: -> u\nlaw m: -> v\nrule a: => p\nrule b: u => p\nrule c: v => p\nrule d: => q\n"
        self.assertEqual(Asked(text).bare("d", "abcd", "p", STANDS), ["a", "b", "c"])

    def test_by_numbers_and_not_by_the_first_rule(self):
        # bc is 6, ad is 9.
        asked = Asked("rule a: => w\nrule d: w => p\nrule b: => x\nrule c: x => p\n")
        self.assertEqual(asked.bare("", "abcd", "p", STANDS), ["bc", "ad"])

    def test_left_out_and_found(self):
        text = "rule a: => p\nrule b: => ~p\nlaw l: c -> ~b\nrule c: => r\nweigh b > a\nweigh c > b\n"
        asked = Asked(text)
        self.assertEqual(asked.bare("ab", "abc", "p", STANDS), ["b", "c"])
        self.assertEqual(asked.bare("ab", "abc", "p", NEITHER), ["ab", "ac"])
        self.assertEqual(asked.bare("b", "abc", "p", STANDS), ["ab", "ac"])

    def test_what_has_a_part_that_does_is_left_away(self):
        text = "law f: -> u\nlaw g: -> v\nlaw h: a -> ~b\nrule a: u => q\nrule b: v => q\nrule d: => q\n"
        self.assertEqual(Asked(text).bare("d", "abd", "q", STANDS_NOT), ["d"])
        self.assertEqual(Asked(text).bare("a", "abd", "q", STANDS_NOT), ["a", "b"])


class SomeOfThemTest(unittest.TestCase):
    ALL = ["acz", "bcz", "adz", "bdz", "aez", "bez"]

    def some(self, start, most):
        return Asked(WAYS).bare("abcdez", "abcdez", "p", STANDS_NOT, start, most)

    def test_from_the_first_on(self):
        for most in range(6):
            self.assertEqual(self.some(0, most), self.ALL[:most])

    def test_just_as_many_as_are_left_and_more(self):
        for start in range(6):
            for most in (6 - start, 7 - start, 100, LARGE):
                self.assertEqual(self.some(start, most), self.ALL[start:])

    def test_from_the_middle_on(self):
        self.assertEqual(self.some(2, 0), [])
        self.assertEqual(self.some(2, 1), ["adz"])
        self.assertEqual(self.some(2, 3), ["adz", "bdz", "aez"])
        self.assertEqual(self.some(3, 3), ["bdz", "aez", "bez"])

    def test_the_last_and_just_behind_it(self):
        self.assertEqual(self.some(5, 0), [])
        self.assertEqual(self.some(5, 1), ["bez"])
        self.assertEqual(self.some(5, 2), ["bez"])
        for start in (6, 7, 1000, 1 << 31, LARGE):
            for most in (0, 1, 6, LARGE):
                self.assertEqual(self.some(start, most), [])

    def test_both_large_at_once(self):
        self.assertEqual(self.some(LARGE, LARGE), [])
        self.assertEqual(self.some(5, LARGE), ["bez"])
        self.assertEqual(self.some(0, LARGE), self.ALL)

    def test_one_by_one(self):
        self.assertEqual([self.some(start, 1)[0] for start in range(6)], self.ALL)

    def test_as_many_as_bares_tells(self):
        asked = Asked(WAYS)
        for w in range(0, 64, 5):
            for may in range(64):
                for literal in (asked.literal("p"), asked.literal("b")):
                    for what in range(4):
                        told = bare(w, may, literal, what, 0, LARGE, asked.t)
                        self.assertEqual(bares(w, may, literal, what, asked.t), [0, len(told) - 1])


if __name__ == "__main__":
    unittest.main()
