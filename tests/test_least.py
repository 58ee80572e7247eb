"""least: the first in order of the changes that do."""

import unittest

from asking import BIRDS, Asked, bytes_of
from rulechange.desk import least

STANDS, STANDS_NOT, FALLS, NEITHER = range(4)
NONE_DOES = -3


class BirdsTest(unittest.TestCase):
    """Rules: flies 0, flies-not 1, which outweighs it. Literals: fly 6, its opposite 7."""

    def test_the_whole_answer(self):
        t = bytes_of(BIRDS)
        self.assertEqual([least(3, 3, 6, what, t) for what in range(4)], [[0, 2], [0, 0], [0, 0], [0, 3]])
        self.assertEqual([least(3, 3, 7, what, t) for what in range(4)], [[0, 0], [0, 2], [0, 2], [0, 3]])
        self.assertEqual([least(0, 3, 6, what, t) for what in range(4)], [[0, 1], [0, 0], [0, 2], [0, 0]])
        self.assertEqual([least(1, 3, 6, what, t) for what in range(4)], [[0, 0], [0, 1], [0, 2], [0, 1]])
        self.assertEqual([least(2, 3, 6, what, t) for what in range(4)], [[0, 3], [0, 0], [0, 0], [0, 2]])

    def test_may_is_what_may_change(self):
        t = bytes_of(BIRDS)
        self.assertEqual([least(2, may, 6, 0, t) for may in range(4)], [[-3], [-3], [-3], [0, 3]])
        self.assertEqual([least(3, may, 6, 0, t) for may in range(4)], [[-3], [-3], [0, 2], [0, 2]])
        self.assertEqual([least(0, may, 6, 0, t) for may in range(4)], [[-3], [0, 1], [-3], [0, 1]])
        self.assertEqual([least(1, may, 6, 0, t) for may in range(4)], [[0, 0]] * 4)

    def test_what_laws_say_no_change_undoes(self):
        t = bytes_of(BIRDS)
        for w in range(4):
            for may in range(4):
                # bird 0 and penguin 8 stand by laws.
                for literal in (0, 8):
                    told = [least(w, may, literal, what, t) for what in range(4)]
                    self.assertEqual(told, [[0, 0], [-3], [-3], [-3]])
                    told = [least(w, may, literal + 1, what, t) for what in range(4)]
                    self.assertEqual(told, [[-3], [0, 0], [0, 0], [-3]])


class ChangesTest(unittest.TestCase):
    def test_a_rule_is_left_out(self):
        asked = Asked("rule a: => p\nrule b: => ~p\n")
        self.assertEqual(asked.least("ab", "ab", "p", STANDS), "b")
        self.assertEqual(asked.least("ab", "ab", "p", FALLS), "a")
        self.assertEqual(asked.least("a", "ab", "p", STANDS_NOT), "a")

    def test_a_rule_is_found(self):
        asked = Asked("rule a: => p\nrule b: p => q\nrule c: => r\n")
        self.assertEqual(asked.least("a", "abc", "q", STANDS), "b")
        self.assertEqual(asked.least("", "abc", "q", STANDS), "ab")
        self.assertEqual(asked.least("c", "ab", "q", STANDS), "ab")

    def test_some_are_left_out_and_others_found(self):
        text = "rule a: => p\nrule b: p => q\nrule c: => ~q\nrule d: => r\n"
        asked = Asked(text)
        self.assertEqual(asked.least("ac", "abcd", "q", STANDS), "bc")
        self.assertEqual(asked.least("c", "abcd", "q", STANDS), "abc")
        self.assertEqual(asked.least("bd", "abcd", "q", FALLS), "c")
        self.assertEqual(asked.least("abd", "abcd", "q", FALLS), "ac")
        self.assertEqual(asked.least("cd", "ab", "q", STANDS), NONE_DOES)
        self.assertEqual(asked.least("cd", "abc", "q", STANDS), "abc")

    def test_a_rule_is_found_that_defends(self):
        text = "rule a: => p\nrule b: => ~p\nlaw l: c -> ~b\nrule c: => r\nweigh b > a\nweigh c > b\n"
        asked = Asked(text)
        self.assertEqual(asked.least("ab", "c", "p", STANDS), "c")
        self.assertEqual(asked.least("ab", "abc", "p", STANDS), "b")
        self.assertEqual(asked.least("ab", "ac", "p", STANDS), "c")
        self.assertEqual(asked.least("ab", "a", "p", STANDS), NONE_DOES)

    def test_a_rule_that_may_not_change_stays_as_it_is(self):
        asked = Asked("rule a: => p\nrule b: => ~p\nrule c: => q\n")
        self.assertEqual(asked.least("ab", "ac", "p", STANDS), NONE_DOES)
        self.assertEqual(asked.least("bc", "ac", "p", FALLS), "")
        self.assertEqual(asked.least("bc", "ac", "p", NEITHER), "a")
        self.assertEqual(asked.least("c", "c", "p", STANDS), NONE_DOES)

    def test_each_goal(self):
        asked = Asked("rule a: => p\nrule b: => ~p\nrule c: => q\nrule d: q => ~p\nweigh d > a\n")
        for goal, told in ((STANDS, "c"), (STANDS_NOT, ""), (FALLS, "a"), (NEITHER, "")):
            self.assertEqual(asked.least("acd", "abcd", "p", goal), told)
        self.assertEqual(asked.least("a", "abcd", "p", STANDS), "")
        self.assertEqual(asked.least("a", "abcd", "p", STANDS_NOT), "a")
        self.assertEqual(asked.least("a", "abcd", "p", FALLS), "ab")
        self.assertEqual(asked.least("a", "acd", "p", FALLS), "acd")
        self.assertEqual(asked.least("a", "abcd", "p", NEITHER), "a")
        self.assertEqual(asked.least("a", "bcd", "p", NEITHER), "b")

    def test_a_goal_of_an_opposite(self):
        asked = Asked("rule a: => p\nrule b: => ~p\n")
        for rules in ("", "a", "b", "ab"):
            for may in ("", "a", "b", "ab"):
                self.assertEqual(asked.least(rules, may, "p", STANDS), asked.least(rules, may, "~p", FALLS))
                self.assertEqual(asked.least(rules, may, "p", FALLS), asked.least(rules, may, "~p", STANDS))
                self.assertEqual(asked.least(rules, may, "p", NEITHER), asked.least(rules, may, "~p", NEITHER))


class EmptyChangeTest(unittest.TestCase):
    def test_where_the_goal_is_so_already(self):
        asked = Asked("rule a: => p\nrule b: => ~p\nrule c: => q\n")
        for may in ("", "a", "bc", "abc"):
            self.assertEqual(asked.least("ac", may, "p", STANDS), "")
            self.assertEqual(asked.least("abc", may, "p", STANDS_NOT), "")
            self.assertEqual(asked.least("b", may, "p", FALLS), "")
            self.assertEqual(asked.least("", may, "p", NEITHER), "")

    def test_no_change_does_where_none_may(self):
        asked = Asked("rule a: => p\nrule b: => ~p\nrule c: => q\n")
        self.assertEqual(asked.least("abc", "", "p", STANDS), NONE_DOES)
        self.assertEqual(asked.least("ac", "", "p", STANDS_NOT), NONE_DOES)
        self.assertEqual(asked.least("ac", "", "p", FALLS), NONE_DOES)
        self.assertEqual(asked.least("b", "", "p", NEITHER), NONE_DOES)

    def test_no_change_does_of_all_that_may(self):
        asked = Asked("law l: -> q\nlaw m: q -> ~a\nrule a: => p\nrule b: p => r\n")
        for rules in ("", "a", "b", "ab"):
            self.assertEqual(asked.least(rules, "ab", "p", STANDS), NONE_DOES)
            self.assertEqual(asked.least(rules, "ab", "r", STANDS), NONE_DOES)
            self.assertEqual(asked.least(rules, "ab", "a", STANDS), NONE_DOES)
            self.assertEqual(asked.least(rules, "ab", "a", NEITHER), NONE_DOES)

    def test_a_case_without_rules(self):
        t = bytes_of("law l: -> p\nlaw m: q -> ~p\n")
        self.assertEqual([least(0, 0, 0, what, t) for what in range(4)], [[0, 0], [-3], [-3], [-3]])
        self.assertEqual([least(0, 0, 2, what, t) for what in range(4)], [[-3], [0, 0], [-3], [0, 0]])


class OrderTest(unittest.TestCase):
    def test_fewer_rules_go_first_however_large_the_number(self):
        asked = Asked("rule a: => x\nrule b: x => p\nrule z: => p\n")
        self.assertEqual(asked.least("", "abz", "p", STANDS), "z")
        self.assertEqual(asked.least("", "ab", "p", STANDS), "ab")
        self.assertEqual(asked.least("a", "abz", "p", STANDS), "b")

    def test_one_rule_of_the_largest_number_before_two_of_the_smallest(self):
        rows = ["r0: => x", "r1: x => p", "r9: => p"] + [f"r{k}: => y{k}" for k in range(2, 9)]
        t = bytes_of("".join(f"rule {row}\n" for row in rows))
        self.assertEqual(least(0, 1023, 0, 0, t), [0, 512])
        self.assertEqual(least(0, 511, 0, 0, t), [0, 3])
        self.assertEqual(least(1023, 1023, 0, 1, t), [0, 513])
        self.assertEqual(least(1023 - 512, 1023, 0, 1, t), [0, 1])

    def test_two_rules_before_three(self):
        asked = Asked("rule a: => x\nrule b: x => y\nrule c: y => p\nrule d: => z\nrule e: z => p\n")
        self.assertEqual(asked.least("", "abcde", "p", STANDS), "de")
        self.assertEqual(asked.least("", "abcd", "p", STANDS), "abc")
        self.assertEqual(asked.least("b", "abcde", "p", STANDS), "ac")

    def test_of_as_many_rules_the_smaller_number(self):
        text = "law l: -> u\nlaw m: -> v\nrule a: => p\nrule b: u => p\nrule c: v => p\nrule d: => q\n"
        asked = Asked(text)
        self.assertEqual(asked.least("", "abcd", "p", STANDS), "a")
        self.assertEqual(asked.least("", "bcd", "p", STANDS), "b")
        self.assertEqual(asked.least("d", "cd", "p", STANDS), "c")

    def test_of_as_many_rules_the_smaller_number_not_the_first_rule(self):
        # bc is 6, ad is 9: the smaller number goes first, though a stands before b.
        asked = Asked("rule a: => w\nrule d: w => p\nrule b: => x\nrule c: x => p\n")
        self.assertEqual(asked.least("", "abcd", "p", STANDS), "bc")
        self.assertEqual(asked.least("", "abd", "p", STANDS), "ad")

    def test_left_out_and_found_count_alike(self):
        # From ab, p stands with b left out (2), or with c found (4).
        text = "rule a: => p\nrule b: => ~p\nlaw l: c -> ~b\nrule c: => r\nweigh b > a\nweigh c > b\n"
        self.assertEqual(Asked(text).least("ab", "abc", "p", STANDS), "b")
        # The same, with the names the other way round.
        text = "rule x: => p\nrule z: => ~p\nlaw l: y -> ~z\nrule y: => r\nweigh z > x\nweigh y > z\n"
        self.assertEqual(Asked(text).least("xz", "xyz", "p", STANDS), "y")


class WeightsTest(unittest.TestCase):
    def test_weights_go_on_through_rules_that_are_left_out(self):
        text = "rule x: => p\nrule y: => q\nrule z: => ~p\nweigh x > y\nweigh y > z\n"
        asked = Asked(text)
        self.assertEqual(asked.least("z", "xy", "p", STANDS), "x")
        self.assertEqual(asked.least("xyz", "y", "p", FALLS), NONE_DOES)
        self.assertEqual(asked.least("xyz", "yz", "q", STANDS_NOT), "y")
        self.assertEqual(asked.least("yz", "xy", "p", STANDS), "x")


if __name__ == "__main__":
    unittest.main()
