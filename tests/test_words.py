"""Every call held against the document's words, over many small cases."""

import random
import unittest

import reference
from asking import CALLS, CALLS_BY_WORDS, LARGE, bytes_of, make_asked, make_text
from rulechange import desk


class AgainstTheWordsTest(unittest.TestCase):
    def compare(self, seed, count, rule_counts, names=tuple(CALLS)):
        pick = random.Random(seed)
        for turn in range(count):
            asked = make_asked(pick, rule_counts)
            for name in names:
                told = CALLS_BY_WORDS[name](*asked)
                self.assertEqual(CALLS[name](*asked), told, (name, asked[:4], bytes(asked[4]).decode()))

    def test_small_cases(self):
        self.compare(1, 1500, (1, 2, 3, 4))

    def test_larger_cases(self):
        self.compare(2, 100, (5, 6))

    def test_with_of_on_more_cases(self):
        self.compare(6, 3000, (1, 2, 3, 4), ("with_of",))
        self.compare(7, 300, (5, 6, 7), ("with_of",))

    def test_all_that_can_be_asked_of_some_cases(self):
        pick = random.Random(3)
        for turn in range(6):
            case, t = self.make_case_of_two_or_three(pick)
            sets = range(2 ** len(case.rules))
            rows = [(w, may, literal, what, t) for w in sets for may in sets for literal in range(4) for what in range(4)]
            for asked in rows:
                for name in CALLS:
                    self.assertEqual(CALLS[name](*asked), CALLS_BY_WORDS[name](*asked), (name, asked))

    @staticmethod
    def make_case_of_two_or_three(pick):
        while True:
            text = make_text(pick, pick.randint(2, 3))
            case = reference.read(text)[0]
            if case and case.heavier:
                return case, bytes_of(text)

    def test_bare_from_anywhere(self):
        pick = random.Random(5)
        for turn in range(200):
            w, may, literal, what, t = make_asked(pick, (3, 4, 5))
            for start in (0, 1, 2, 3, LARGE):
                for most in (0, 1, 2, LARGE):
                    asked = (w, may, literal, what, start, most, t)
                    self.assertEqual(desk.bare(*asked), reference.bare(*asked), asked)

    def test_texts_with_faults(self):
        pick = random.Random(4)
        seen = set()
        for turn in range(2000):
            text = make_text(pick, pick.randint(1, 4))
            wrong = reference.fault(text)
            seen.add(wrong and wrong[0])
            for name, call in CALLS.items():
                self.assertEqual(call(0, 0, 0, 0, bytes_of(text)) == [-6], wrong is not None, (name, text))
        self.assertLessEqual({None, 3, 6}, seen)


if __name__ == "__main__":
    unittest.main()
