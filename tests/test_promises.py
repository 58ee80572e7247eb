"""The promises, over many small cases."""

import random
import unittest

from asking import LARGE, make_asked, make_case, members
from rulechange.desk import bare, bares, least, needed, with_of


class FirstPromiseTest(unittest.TestCase):
    def cases(self, count):
        pick = random.Random(4)
        for turn in range(count):
            yield make_case(pick, pick.randint(1, 5))

    def test_with_all_rules_it_is_the_case_s_ground(self):
        for case, t in self.cases(200):
            every = 2 ** len(case.rules) - 1
            self.assertEqual(with_of(every, 0, 0, t)[2], case.number_of(case.ground(case.rules)))

    def test_the_ground_is_free_and_within_w(self):
        for case, t in self.cases(200):
            for w in range(2 ** len(case.rules)):
                number = with_of(w, 0, 0, t)[2]
                self.assertEqual(number & w, number)
                ground = case.set_of(number)
                self.assertFalse([rule for rule in ground if case.strikes(ground, rule)])

    def test_the_goals_hang_together(self):
        for case, t in self.cases(20):
            for w in range(2 ** len(case.rules)):
                for literal in range(len(case.literals())):
                    stands, stands_not, falls, neither = [with_of(w, literal, what, t)[1] for what in range(4)]
                    self.assertEqual(stands + stands_not, 1)
                    self.assertEqual(stands + falls + neither, 1)
                    self.assertEqual(falls, with_of(w, literal ^ 1, 0, t)[1])


def parts(whole):
    return [part for part in range(whole + 1) if part & whole == part]


def is_part(part, whole):
    return part & whole == part and part != whole


def change(w, z):
    return (w & ~z) | (z & ~w)


class ChangesTest(unittest.TestCase):
    """What each call tells of changes, held against with_of of every change."""

    def rows(self, seed, count, rule_counts=(2, 3, 4, 5)):
        pick = random.Random(seed)
        for turn in range(count):
            w, may, literal, what, t = make_asked(pick, rule_counts)
            doing = [z for z in parts(may) if with_of(change(w, z), literal, what, t)[1] == 1]
            yield (w, may, literal, what, t), doing


def bare_among(doing):
    return [z for z in doing if not any(is_part(other, z) for other in doing)]


class SecondPromiseTest(ChangesTest):
    def test_every_change_that_does_has_a_bare_one_within(self):
        told = [0, 0, 0]
        for (w, may, literal, what, t), doing in self.rows(8, 300, (4, 5)):
            found = bare_among(doing)
            self.assertEqual(bares(w, may, literal, what, t), [0, len(found)])
            self.assertEqual(sorted(bare(w, may, literal, what, 0, LARGE, t)[1:]), sorted(found))
            told[min(len(found), 2)] += 1
            for z in doing:
                self.assertTrue([part for part in found if part & z == part])
                # Told by the call: of what is within z alone, there is a bare change too.
                self.assertGreaterEqual(bares(w, z, literal, what, t)[1], 1)
            for z in parts(may):
                within = [part for part in found if part & z == part]
                self.assertEqual(bares(w, z, literal, what, t), [0, len(within)])
        self.assertGreater(min(told), 20)

    def test_the_least_does_and_is_bare_and_none_that_does_has_fewer_rules(self):
        told = {-3: 0, 0: 0}
        for asked, doing in self.rows(5, 300):
            answer = least(*asked)
            told[answer[0]] += 1
            if not doing:
                self.assertEqual(answer, [-3])
                continue
            self.assertEqual((answer[0], len(answer)), (0, 2))
            found = answer[1]
            self.assertEqual(bare(*asked[:4], 0, 1, asked[4]), answer)
            self.assertIn(found, doing)
            self.assertFalse([z for z in doing if is_part(z, found)])
            self.assertEqual(len(members(found)), min(len(members(z)) for z in doing))
            self.assertEqual(found, min(z for z in doing if len(members(z)) == len(members(found))))
        self.assertGreater(min(told.values()), 50)


def in_each(sets):
    common = sets[0]
    for one in sets:
        common &= one
    return common


def in_some(sets):
    return sum(2**rule for rule in range(10) if any(one >> rule & 1 for one in sets))


class ThirdPromiseTest(ChangesTest):
    def test_what_is_in_every_change_that_does_is_in_every_bare_one_and_the_other_way_round(self):
        told = {"refused": 0, "one": 0, "several, that share": 0, "several, that share none": 0}
        for (w, may, literal, what, t), doing in self.rows(9, 600, (4, 5)):
            answer = needed(w, may, literal, what, t)
            changes = bare(w, may, literal, what, 0, LARGE, t)[1:]
            if not doing:
                self.assertEqual(answer, [-3])
                self.assertEqual(changes, [])
                told["refused"] += 1
                continue
            self.assertEqual(in_each(doing), in_each(changes))
            self.assertEqual(answer, [0, in_each(doing), in_some(changes)])
            if len(changes) == 1:
                self.assertEqual(answer, [0, changes[0], changes[0]])
            told["one" if len(changes) == 1 else "several, that share" if answer[1] else "several, that share none"] += 1
        self.assertGreater(min(told.values()), 5, told)


class FourthPromiseTest(ChangesTest):
    def test_a_change_made_twice_is_none(self):
        for (w, may, literal, what, t), doing in self.rows(6, 60, (1, 2, 3, 4)):
            for z in parts(may):
                other = change(w, z)
                self.assertEqual(change(other, z), w)
                # What does from W, does from W' with z undone besides: one of the two is refused just if the other is.
                answer = least(other, may, literal, what, t)
                self.assertEqual(answer[0], 0 if doing else -3)
                if doing:
                    self.assertIn(change(answer[1], z), doing)
                if 0 in doing:
                    # The goal was so ahead of z, so z once more does.
                    back = least(other, z, literal, what, t)
                    self.assertEqual(back[0], 0)
                    self.assertEqual(back[1] & z, back[1])

    def test_the_least_change_undone_is_the_goal_as_it_was(self):
        for (w, may, literal, what, t), doing in self.rows(7, 200):
            if doing and 0 not in doing:
                found = least(w, may, literal, what, t)[1]
                after = change(w, found)
                self.assertEqual(least(after, may, literal, what, t), [0, 0])
                self.assertEqual(with_of(change(after, found), literal, what, t), with_of(w, literal, what, t))


if __name__ == "__main__":
    unittest.main()
