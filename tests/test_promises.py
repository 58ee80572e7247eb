"""Promise 1, and with_of held against the document's words, over many small cases."""

import random
import unittest

import reference
from rulechange.desk import with_of


def make_literal(pick, names):
    return pick.choice(("", "~")) + pick.choice(names)


def make_clause(pick, word, arrow, name, names, sizes):
    body = [make_literal(pick, names) for part in range(pick.choice(sizes))]
    return f"{word} {name}: {', '.join(body)}{' ' * (len(body) > 0)}{arrow} {make_literal(pick, names)}\n"


def make_text(pick, rule_count):
    rules = [f"r{k}" for k in range(rule_count)]
    atoms = [f"p{k}" for k in range(pick.randint(1, 4))]
    lines = [make_clause(pick, "rule", "=>", name, atoms + atoms + rules, (0, 0, 0, 1, 1, 2)) for name in rules]
    laws = range(pick.randint(0, 5))
    lines += [make_clause(pick, "law", "->", f"l{k}", atoms + rules, (1, 1, 2, 2, 3)) for k in laws]
    pick.shuffle(lines)
    for told in range(pick.choice((0, 0, 1, 2, 4)) if rule_count > 1 else 0):
        heavy, light = pick.sample(rules, 2)
        lines.append(f"weigh {heavy} > {light}\n")
    return "".join(lines)


def make_case(pick, rule_count):
    while True:
        text = make_text(pick, rule_count)
        case = reference.read(text)[0]
        if case:
            return case, list(text.encode())


class AgainstTheWordsTest(unittest.TestCase):
    def compare(self, seed, count, rule_counts):
        pick = random.Random(seed)
        for turn in range(count):
            case, t = make_case(pick, pick.choice(rule_counts))
            w = pick.choice((2 ** len(case.rules) - 1, pick.randrange(2 ** len(case.rules))))
            literal = pick.randrange(len(case.literals()))
            what = pick.randrange(4)
            told = reference.with_of(w, literal, what, t)
            self.assertEqual(with_of(w, literal, what, t), told, (w, literal, what, bytes(t).decode()))

    def test_small_cases(self):
        self.compare(1, 3000, (1, 2, 3, 4))

    def test_larger_cases(self):
        self.compare(2, 300, (5, 6, 7))

    def test_texts_with_faults(self):
        pick = random.Random(3)
        seen = set()
        for turn in range(4000):
            text = make_text(pick, pick.randint(1, 4))
            wrong = reference.fault(text)
            seen.add(wrong and wrong[0])
            self.assertEqual(with_of(0, 0, 0, list(text.encode())) == [-6], wrong is not None, text)
        self.assertLessEqual({None, 3, 6}, seen)


class FirstPromiseTest(unittest.TestCase):
    def cases(self, count):
        pick = random.Random(4)
        for turn in range(count):
            yield make_case(pick, pick.randint(1, 5))

    def test_with_all_rules_it_is_the_case_s_ground(self):
        for case, t in self.cases(200):
            every = 2 ** len(case.rules) - 1
            self.assertEqual(with_of(every, 0, 0, t)[2], case.number_of(case.ground(case.rules)))

    def test_the_ground_is_free_and_within_w(self):
        for case, t in self.cases(200):
            for w in range(2 ** len(case.rules)):
                number = with_of(w, 0, 0, t)[2]
                self.assertEqual(number & w, number)
                ground = case.set_of(number)
                self.assertFalse([rule for rule in ground if case.strikes(ground, rule)])

    def test_the_goals_hang_together(self):
        for case, t in self.cases(20):
            for w in range(2 ** len(case.rules)):
                for literal in range(len(case.literals())):
                    stands, stands_not, falls, neither = [with_of(w, literal, what, t)[1] for what in range(4)]
                    self.assertEqual(stands + stands_not, 1)
                    self.assertEqual(stands + falls + neither, 1)
                    self.assertEqual(falls, with_of(w, literal ^ 1, 0, t)[1])


if __name__ == "__main__":
    unittest.main()
