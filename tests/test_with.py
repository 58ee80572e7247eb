"""with_of: goals, grounds, weights, numbers."""

import unittest
from itertools import permutations

from asking import BIRDS, Asked, bytes_of
from rulechange.cases import read_case
from rulechange.desk import with_of

STANDS = (1, 0, 0, 0)
FALLS = (0, 1, 1, 0)
NEITHER = (0, 1, 0, 1)
OPPOSITE = {STANDS: FALLS, FALLS: STANDS, NEITHER: NEITHER}


class GoalsTest(unittest.TestCase):
    def test_the_whole_answer(self):
        # Atoms: bird 0, flies 1, flies-not 2, fly 3, penguin 4. Rules: flies 0, flies-not 1.
        t = bytes_of(BIRDS)
        self.assertEqual([with_of(3, 6, what, t) for what in range(4)], [[0, 0, 2], [0, 1, 2], [0, 1, 2], [0, 0, 2]])
        self.assertEqual([with_of(3, 7, what, t) for what in range(4)], [[0, 1, 2], [0, 0, 2], [0, 0, 2], [0, 0, 2]])
        self.assertEqual([with_of(1, 6, what, t) for what in range(4)], [[0, 1, 1], [0, 0, 1], [0, 0, 1], [0, 0, 1]])
        self.assertEqual([with_of(0, 6, what, t) for what in range(4)], [[0, 0, 0], [0, 1, 0], [0, 0, 0], [0, 1, 0]])

    def test_each_goal_with_all_some_and_no_rules(self):
        birds = Asked(BIRDS)
        for rules, told in (
            (["flies", "flies-not"], FALLS),
            (["flies-not"], FALLS),
            (["flies"], STANDS),
            ([], NEITHER),
        ):
            with self.subTest(rules=rules):
                self.assertEqual(birds.goals(rules, "fly"), told)
                self.assertEqual(birds.goals(rules, "~fly"), OPPOSITE[told])
                self.assertEqual(birds.goals(rules, "bird"), STANDS)
                self.assertEqual(birds.goals(rules, "~penguin"), FALLS)

    def test_a_rule_s_name_stands_if_it_is_in_the_ground(self):
        birds = Asked(BIRDS)
        self.assertEqual(birds.goals(["flies", "flies-not"], "flies-not"), STANDS)
        self.assertEqual(birds.goals(["flies", "flies-not"], "flies"), NEITHER)
        self.assertEqual(birds.goals(["flies"], "flies"), STANDS)

    def test_a_rule_whose_body_does_not_follow(self):
        asked = Asked("rule a: p => q\nrule b: => ~q\n")
        self.assertEqual(asked.ground(), ["a", "b"])
        self.assertEqual(asked.goals(["a", "b"], "q"), FALLS)
        self.assertEqual(asked.goals(["a"], "q"), NEITHER)
        self.assertEqual(asked.goals(["a"], "a"), STANDS)

    def test_rules_and_laws_go_on_from_one_another(self):
        asked = Asked("law x: q, r -> s\nrule a: => p\nrule b: p => q\nrule c: b, a => r\nrule d: s => ~t\n")
        self.assertEqual(asked.goals(["a", "b", "c", "d"], "t"), FALLS)
        for left in "abcd":
            self.assertEqual(asked.goals(set("abcd") - {left}, "t"), NEITHER)

    def test_bodies_of_six_need_all_six(self):
        body = ", ".join("uvwxyz")
        asked = Asked("".join(f"rule r{k}: => {k}\n" for k in "uvwxyz") + f"law l: {body} -> p\nrule r: {body} => q\n")
        every = [f"r{k}" for k in "uvwxyz"] + ["r"]
        self.assertEqual(asked.goals(every, "p"), STANDS)
        self.assertEqual(asked.goals(every, "q"), STANDS)
        for left in every[:6]:
            self.assertEqual(asked.goals(set(every) - {left}, "p"), NEITHER)
            self.assertEqual(asked.goals(set(every) - {left}, "q"), NEITHER)

    def test_an_opposite_in_a_body_has_to_follow(self):
        asked = Asked("rule a: ~p => q\nrule b: => ~p\n")
        self.assertEqual(asked.goals(["a"], "q"), NEITHER)
        self.assertEqual(asked.goals(["a", "b"], "q"), STANDS)


class GroundTest(unittest.TestCase):
    def test_rules_that_clash_without_weights(self):
        asked = Asked("rule a: => p\nrule b: => ~p\nrule c: => q\n")
        self.assertEqual(asked.ground(), ["c"])
        self.assertEqual(asked.ground("ac"), ["a", "c"])
        self.assertEqual(asked.ground("b"), ["b"])
        self.assertEqual(asked.ground(""), [])
        self.assertEqual(asked.goals("abc", "p"), NEITHER)

    def test_a_rule_is_defended(self):
        asked = Asked("rule a: => p\nrule b: p => ~p\nrule c: => q\nlaw l: a -> ~b\nlaw m: b -> ~c\nweigh a > b\nweigh b > c\n")
        self.assertEqual(asked.ground(), ["a", "c"])
        self.assertEqual(asked.ground("bc"), ["b"])
        self.assertEqual(asked.ground("ab"), ["a"])
        self.assertEqual(asked.goals("abc", "b"), FALLS)

    def test_defence_in_many_steps(self):
        text = "".join(f"rule r{k}: => p{k}\n" for k in range(10))
        text += "".join(f"law l{k}: r{k} -> ~r{k + 1}\nweigh r{k} > r{k + 1}\n" for k in range(9))
        asked = Asked(text)
        self.assertEqual(asked.ground(), ["r0", "r2", "r4", "r6", "r8"])
        self.assertEqual(asked.ground([f"r{k}" for k in range(1, 10)]), ["r1", "r3", "r5", "r7", "r9"])
        self.assertEqual(asked.ground(["r0", "r1", "r2", "r5", "r6", "r8"]), ["r0", "r2", "r5", "r8"])

    def test_a_rule_that_clashes_by_itself(self):
        asked = Asked("law l: -> ~p\nrule a: => p\nrule b: => ~b\nrule c: => q\nrule d: q => p\nweigh a > c\nweigh b > c\n")
        self.assertEqual(asked.ground(), [])
        self.assertEqual(asked.ground("ab"), [])
        self.assertEqual(asked.ground("abc"), ["c"])
        self.assertEqual(asked.ground("d"), ["d"])

    def test_three_rules_that_clash_together(self):
        text = "rule a: => p\nrule b: => q\nrule c: => r\nlaw l: p, q -> ~r\n"
        asked = Asked(text)
        self.assertEqual(asked.ground(), [])
        self.assertEqual(asked.ground("ab"), ["a", "b"])
        self.assertEqual(asked.goals("ab", "r"), FALLS)

    def test_a_rule_is_not_struck_with_one_that_it_outweighs(self):
        text = "rule a: => p\nrule b: => q\nrule c: => r\nlaw l: p, q -> ~r\n"
        self.assertEqual(Asked(text + "weigh c > a\n").ground(), ["c"])
        self.assertEqual(Asked(text + "weigh c > a\nweigh b > a\n").ground(), ["b", "c"])
        self.assertEqual(Asked(text + "weigh c > a\nweigh a > b\n").ground(), ["a", "c"])
        self.assertEqual(Asked(text + "weigh c > a\nweigh c > b\n").ground(), ["c"])

    def test_a_rule_struck_alone_by_an_outweighed_one_is_not_struck(self):
        text = "rule a: => p\nrule b: => ~p\n"
        self.assertEqual(Asked(text + "weigh a > b\n").ground(), ["a"])
        self.assertEqual(Asked(text + "weigh b > a\n").ground(), ["b"])

    def test_a_law_takes_a_rule_away(self):
        asked = Asked("rule a: => p\nrule b: => q\nlaw l: p -> ~b\nlaw m: -> ~c\nrule c: => r\n")
        self.assertEqual(asked.ground("ab"), [])
        self.assertEqual(asked.ground("bc"), ["b"])
        self.assertEqual(asked.goals("", "c"), FALLS)

    def test_laws_hold_of_rules_outside_w(self):
        asked = Asked("rule a: => p\nrule b: => q\nlaw l: ~a -> s\nlaw m: p -> ~b\nlaw n: ~b -> t\n")
        self.assertEqual(asked.goals("a", "t"), STANDS)
        self.assertEqual(asked.goals("a", "b"), FALLS)
        self.assertEqual(asked.goals("b", "a"), NEITHER)


class WeightsTest(unittest.TestCase):
    TEXT = "rule x: => p\nrule y: => q\nrule z: => ~p\n"

    def test_weights_go_on(self):
        self.assertEqual(Asked(self.TEXT).ground(), ["y"])
        asked = Asked(self.TEXT + "weigh x > y\nweigh y > z\n")
        self.assertEqual(asked.ground(), ["x", "y"])
        self.assertEqual(asked.goals("xyz", "p"), STANDS)

    def test_weights_go_on_through_a_rule_outside_w(self):
        self.assertEqual(Asked(self.TEXT + "weigh x > y\nweigh y > z\n").ground("xz"), ["x"])
        self.assertEqual(Asked(self.TEXT + "weigh y > z\nweigh x > y\n").ground("xz"), ["x"])
        self.assertEqual(Asked(self.TEXT + "weigh z > y\nweigh y > x\n").ground("xz"), ["z"])
        self.assertEqual(Asked(self.TEXT + "weigh x > y\n").ground("xz"), [])

    def test_weights_go_on_through_many_rules_in_any_order(self):
        text = "rule x: => p\nrule z: => ~p\n" + "".join(f"rule y{k}: => q{k}\n" for k in range(8))
        steps = ["x > y3", "y3 > y0", "y0 > y7", "y7 > y1", "y1 > y6", "y6 > y2", "y2 > y5", "y5 > y4", "y4 > z"]
        for row in (steps, steps[::-1], steps[1::2] + steps[::2]):
            whole = text + "".join(f"weigh {step}\n" for step in row)
            self.assertEqual(Asked(whole).ground("xz"), ["x"])
            for left in row:
                self.assertEqual(Asked(whole.replace(f"weigh {left}\n", "")).ground("xz"), [])

    def test_a_weight_told_again_or_that_follows_changes_nothing(self):
        asked = Asked(self.TEXT + "weigh x > y\nweigh y > z\nweigh x > z\nweigh x > y\n")
        self.assertEqual(asked.ground(), ["x", "y"])
        self.assertEqual(asked.ground("xz"), ["x"])


class NumbersTest(unittest.TestCase):
    def test_rules_are_numbered_by_their_names(self):
        names = ["b", "a-", "a", "ab", "a0", "a00", "z", "a--", "ba"]
        order = ["a", "a-", "a--", "a0", "a00", "ab", "b", "ba", "z"]
        self.assertEqual(sorted(names), order)
        for row in (names, names[::-1], order):
            text = "rule m: => p\n" + "".join(f"rule {name}: => q{k}\n" for k, name in enumerate(row))
            whole = order[:-1] + ["m", "z"]
            # m takes one rule out of the ground: the bit that is missing is that rule's number.
            for name in row:
                t = bytes_of(text + f"law l: {name} -> ~p\nweigh m > {name}\n")
                self.assertEqual(with_of(1023, 0, 0, t)[2], 1023 - 2 ** whole.index(name), name)

    def test_atoms_are_numbered_by_their_names(self):
        text = "rule c: b => a\nlaw z: -> b\nlaw y: -> ~a0\nlaw x: ~d -> a-\n"
        atoms = ["a", "a-", "a0", "b", "c", "d"]
        held = {"a", "~a0", "b", "c"}
        for row in (text, "".join(text.splitlines(True)[::-1])):
            t = bytes_of(row)
            for number, atom in enumerate(atoms):
                self.assertEqual(with_of(1, 2 * number, 0, t), [0, int(atom in held), 1])
                self.assertEqual(with_of(1, 2 * number + 1, 0, t), [0, int("~" + atom in held), 1])
            self.assertEqual(with_of(1, 2 * len(atoms), 0, t), [-1])

    def test_laws_are_numbered_by_their_names(self):
        lines = ["law b: p -> q\n", "law a-: q -> r\n", "law a: r -> s\n"]
        told = [(1 << 4, 1 << 6), (1 << 2, 1 << 4), (1 << 0, 1 << 2)]
        for row in permutations(lines):
            self.assertEqual(read_case(bytes_of("".join(row))).laws, told)

    def test_rules_names_are_atoms_and_laws_names_are_not(self):
        t = bytes_of("law l: -> p\n")
        self.assertEqual([with_of(0, literal, 0, t) for literal in range(3)], [[0, 1, 0], [0, 0, 0], [-1]])
        t = bytes_of("rule l: => p\n")
        self.assertEqual([with_of(1, literal, 0, t) for literal in range(5)], [[0, 1, 1], [0, 0, 1], [0, 1, 1], [0, 0, 1], [-1]])

    def test_the_rows_of_the_text_change_nothing(self):
        lines = BIRDS.splitlines(True)
        told = [with_of(w, 6, what, bytes_of(BIRDS)) for w in range(4) for what in range(4)]
        turned = "".join(lines[3::-1] + lines[4:])
        self.assertNotEqual(turned, BIRDS)
        self.assertEqual([with_of(w, 6, what, bytes_of(turned)) for w in range(4) for what in range(4)], told)


if __name__ == "__main__":
    unittest.main()
