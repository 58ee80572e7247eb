"""tips: one weight more, with which the goal is so."""

import random
import unittest

from asking import BIRDS, Asked, bytes_of, make_asked, members
from rulechange.desk import tips, with_of

STANDS, STANDS_NOT, FALLS, NEITHER = range(4)
TWO = "rule a: => p\nrule b: => ~p\n"
THREE = TWO + "rule c: => q\n"
TOGETHER = "rule a: => p\nrule b: => q\nrule c: => r\nlaw l: p, q -> ~r\n"


class OrdinaryTest(unittest.TestCase):
    def test_the_whole_answer(self):
        t = bytes_of(TWO)
        # Atoms: a, b, p.
        self.assertEqual([tips(3, 4, what, t) for what in range(4)], [[0, 0, 1], [0, 1, 0], [0, 1, 0], [0]])
        self.assertEqual([tips(3, 5, what, t) for what in range(4)], [[0, 1, 0], [0, 0, 1], [0, 0, 1], [0]])
        self.assertEqual([tips(3, 0, what, t) for what in range(4)], [[0, 0, 1], [0, 1, 0], [0], [0, 1, 0]])

    def test_each_goal(self):
        asked = Asked(THREE)
        self.assertEqual(asked.tips("abc", "p", STANDS), ["a>b"])
        self.assertEqual(asked.tips("abc", "p", FALLS), ["b>a"])
        self.assertEqual(asked.tips("abc", "~p", STANDS), ["b>a"])
        self.assertEqual(asked.tips("abc", "p", STANDS_NOT), ["a>c", "b>a", "b>c", "c>a", "c>b"])
        self.assertEqual(asked.tips("abc", "p", NEITHER), ["a>c", "b>c", "c>a", "c>b"])

    def test_no_tip(self):
        asked = Asked(THREE)
        self.assertEqual(asked.tips("abc", "q", STANDS_NOT), [])
        self.assertEqual(asked.tips("abc", "q", FALLS), [])
        self.assertEqual(asked.tips("abc", "q", NEITHER), [])
        # It would take two weights.
        asked = Asked("rule a: => p\nrule b: => ~p\nrule c: q => ~p\nlaw l: -> q\n")
        self.assertEqual(asked.tips("abc", "p", STANDS), [])
        self.assertEqual(asked.tips("ab", "p", STANDS), ["a>b"])

    def test_w_as_all_some_one_and_none(self):
        asked = Asked(THREE)
        self.assertEqual(asked.tips("ab", "p", STANDS), ["a>b"])
        self.assertEqual(asked.tips("ac", "p", STANDS), ["a>c", "c>a"])
        self.assertEqual(asked.tips("bc", "p", STANDS), [])
        for rules in ("a", "b", "c", ""):
            for what in range(4):
                for literal in ("p", "~p", "q", "a"):
                    self.assertEqual(asked.tips(rules, literal, what), [])

    def test_where_the_goal_is_so_already(self):
        asked = Asked(THREE)
        self.assertEqual(asked.goal("abc", "q", STANDS), 1)
        self.assertEqual(asked.tips("abc", "q", STANDS), ["a>b", "a>c", "b>a", "b>c", "c>a", "c>b"])
        # With a > b p stands, with b > a it falls: only the others leave it as it is.
        self.assertEqual(asked.goal("abc", "p", NEITHER), 1)
        self.assertEqual(asked.tips("abc", "p", NEITHER), ["a>c", "b>c", "c>a", "c>b"])

    def test_rules_that_clash_together(self):
        asked = Asked(TOGETHER)
        self.assertEqual(asked.tips("abc", "r", STANDS), ["c>a", "c>b"])
        self.assertEqual(asked.tips("abc", "p", STANDS), ["a>b", "a>c"])
        self.assertEqual(asked.tips("abc", "p", STANDS_NOT), ["b>a", "b>c", "c>a", "c>b"])
        self.assertEqual(asked.tips("abc", "r", FALLS), [])
        self.assertEqual(asked.tips("ab", "r", FALLS), ["a>b", "b>a"])
        asked = Asked(TOGETHER + "weigh a > c\n")
        self.assertEqual(asked.tips("abc", "r", FALLS), ["b>a", "b>c"])
        self.assertEqual(asked.tips("abc", "r", NEITHER), ["a>b"])
        self.assertEqual(asked.tips("abc", "r", STANDS), ["c>b"])

    def test_a_tip_that_defends(self):
        # b strikes a; c and b strike one another.
        asked = Asked("rule a: => p\nrule b: => ~p\nrule c: => q\nlaw l: c -> ~b\nweigh b > a\n")
        self.assertEqual(asked.goals("abc", "p"), (0, 1, 0, 1))
        self.assertEqual(asked.tips("abc", "p", STANDS), ["c>b"])
        # a > c does too: b outweighs a, and so c.
        self.assertEqual(asked.tips("abc", "p", FALLS), ["a>c", "b>c"])

    def test_the_order_is_by_numbers_and_not_by_the_text(self):
        text = "rule z: => ~p\nrule m: => q\nrule b: => r\nrule a: => p\n"
        self.assertEqual(tips(15, 12, 3, bytes_of(text)), tips(15, 12, 3, bytes_of("".join(text.splitlines(True)[::-1]))))
        told = Asked(text).tips("abmz", "p", NEITHER)
        self.assertEqual(told, ["a>b", "a>m", "b>a", "b>m", "b>z", "m>a", "m>b", "m>z", "z>b", "z>m"])

    def test_a_case_without_rules(self):
        t = bytes_of("law l: -> p\n")
        self.assertEqual([tips(0, 0, what, t) for what in range(4)], [[0]] * 4)


class OutweighedAlreadyTest(unittest.TestCase):
    def test_by_a_weight_that_is_told(self):
        t = bytes_of(BIRDS)
        for literal in range(10):
            for what in range(4):
                self.assertEqual(tips(3, literal, what, t), [0])
        asked = Asked(THREE + "weigh a > b\n")
        self.assertEqual(asked.tips("abc", "p", STANDS), ["a>c", "b>c", "c>a", "c>b"])
        self.assertEqual(asked.tips("ab", "p", STANDS), [])
        self.assertEqual(asked.tips("abc", "p", FALLS), [])

    def test_by_going_on(self):
        asked = Asked(THREE + "weigh a > c\nweigh c > b\n")
        for what in range(4):
            for literal in ("p", "~p", "q", "a"):
                self.assertEqual(asked.tips("abc", literal, what), [])

    def test_through_a_rule_outside_w(self):
        asked = Asked(THREE + "weigh a > c\nweigh c > b\n")
        for what in range(4):
            for literal in ("p", "~p", "q", "a"):
                self.assertEqual(asked.tips("ab", literal, what), [])
        asked = Asked(THREE + "weigh b > c\nweigh c > a\n")
        self.assertEqual(asked.tips("ab", "p", STANDS), [])
        self.assertEqual(asked.tips("ab", "p", FALLS), [])


class GoingOnTest(unittest.TestCase):
    RULES = "rule h: => p\nrule l: => ~p\nrule x: => q\nrule y: => r\n"

    def test_what_outweighs_x_outweighs_y_and_all_that_y_outweighs(self):
        asked = Asked(self.RULES + "weigh h > x\nweigh y > l\n")
        self.assertEqual(asked.tips("hlxy", "p", STANDS), ["h>l", "h>y", "x>l", "x>y"])
        self.assertEqual(asked.tips("hlxy", "p", FALLS), ["l>h"])
        self.assertEqual(asked.tips("hl", "p", STANDS), ["h>l"])
        self.assertEqual(asked.tips("hlx", "p", STANDS), ["h>l", "x>l"])
        self.assertEqual(asked.tips("hly", "p", STANDS), ["h>l", "h>y"])

    def test_x_itself_outweighs_what_y_outweighs(self):
        asked = Asked(self.RULES + "weigh y > l\n")
        self.assertEqual(asked.tips("hlxy", "p", STANDS), ["h>l", "h>y"])

    def test_what_outweighs_x_outweighs_y_itself(self):
        asked = Asked(self.RULES + "weigh h > x\n")
        self.assertEqual(asked.tips("hlxy", "p", STANDS), ["h>l", "x>l"])

    def test_weights_that_go_on_the_other_way(self):
        asked = Asked(self.RULES + "weigh x > h\nweigh l > y\n")
        self.assertEqual(asked.tips("hlxy", "p", STANDS), ["h>l"])
        self.assertEqual(asked.tips("hlxy", "p", FALLS), ["l>h", "l>x", "y>h", "y>x"])

    def test_through_rules_outside_w(self):
        text = self.RULES + "rule m: => s\nrule n: => t\nweigh h > m\nweigh m > x\nweigh y > n\nweigh n > l\n"
        asked = Asked(text)
        self.assertEqual(asked.tips("hlxy", "p", STANDS), ["h>l", "h>y", "x>l", "x>y"])
        self.assertEqual(asked.tips("hl", "p", STANDS), ["h>l"])
        told = asked.tips("hlmnxy", "p", STANDS)
        self.assertEqual(told, ["h>l", "h>n", "h>y", "m>l", "m>n", "m>y", "x>l", "x>n", "x>y"])

    def test_what_goes_on_may_undo_the_goal(self):
        # Neither stands; with h > l, in whatever way, p does.
        asked = Asked(self.RULES + "weigh h > x\nweigh y > l\n")
        self.assertEqual(asked.goal("hlxy", "p", NEITHER), 1)
        self.assertEqual(asked.tips("hlxy", "p", NEITHER), ["l>x", "y>h", "y>x"])


class WeightMoreTest(unittest.TestCase):
    """A tip is what with_of tells of the text with that weight more."""

    def told_by_with_of(self, w, literal, what, t):
        rules = sorted({line.split()[1][:-1] for line in bytes(t).decode().splitlines() if line.startswith("rule ")})
        told = [0]
        for x in members(w):
            for y in members(w):
                more = with_of(w, literal, what, t + bytes_of(f"weigh {rules[x]} > {rules[y]}\n"))
                less = with_of(w, literal, what, t + bytes_of(f"weigh {rules[y]} > {rules[x]}\n"))
                # With a weight against one that there is already, or of a rule against itself, it is no case's text.
                if [-6] not in (more, less) and more[1] == 1:
                    told += [x, y]
        return told

    def test_over_many_cases(self):
        pick = random.Random(10)
        seen = {}
        for turn in range(400):
            w, may, literal, what, t = make_asked(pick, (3, 4, 5, 6))
            told = tips(w, literal, what, t)
            self.assertEqual(told, self.told_by_with_of(w, literal, what, t), (w, literal, what, bytes(t).decode()))
            so = with_of(w, literal, what, t)[1]
            seen[so, len(told) > 1] = seen.get((so, len(told) > 1), 0) + 1
        self.assertEqual(len(seen), 4, seen)
        self.assertGreater(min(seen.values()), 5, seen)

    def test_over_all_pairs_of_ten_rules(self):
        # Two rows by weight, five rules each; each rule clashes with the one at its place in the other row.
        text = "".join(f"rule a{k}: => p{k}\nrule b{k}: => ~p{k}\n" for k in range(5))
        text += "".join(f"weigh a{k} > a{k + 1}\nweigh b{k} > b{k + 1}\n" for k in range(4))
        t = bytes_of(text)
        for literal in (20, 23, 28):
            for what in (0, 1):
                told = tips(1023, literal, what, t)
                self.assertEqual(told, self.told_by_with_of(1023, literal, what, t))
                self.assertGreater(len(told), 1)


if __name__ == "__main__":
    unittest.main()
