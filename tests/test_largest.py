"""The largest cases that the document allows."""

import unittest
from itertools import permutations

from asking import LARGE, bits, bytes_of, members
from reference import fault, read
from rulechange.desk import bare, bares, least, needed, tips, with_of

EVERY = 1023


def clauses(word, rows):
    return "".join(f"{word} {name}: {row}\n" for name, row in rows)


def all_pairs(numbers):
    return [number for pair in permutations(numbers, 2) for number in pair]


def filled(text):
    """The text with weights told again, up to 8,192 bytes; its rules are a, bb and ccc, among others."""
    room = 8192 - len(text)
    longer = room % 13
    return text + "weigh a > ccc\n" * longer + "weigh a > bb\n" * ((room - 14 * longer) // 13)


class FiveOfTenTest(unittest.TestCase):
    """Any five of ten rules clash, no four do: 252 least clashes, as many as there can be."""

    @staticmethod
    def text():
        rows = ["-> z", "t10-5 -> ~z"]
        for least in range(1, 6):
            for among in range(least, least + 6):
                before = f", t{among - 1}-{least - 1}" if least > 1 else ""
                rows.append(f"r{among - 1}{before} -> t{among}-{least}")
                if among > least:
                    rows.append(f"t{among - 1}-{least} -> t{among}-{least}")
        laws = clauses("law", [(f"l{k}", row) for k, row in enumerate(rows[::-1])])
        return laws + clauses("rule", [(f"r{k}", f"=> r{k}") for k in range(10)])

    def test_without_weights(self):
        t = bytes_of(self.text())
        for w in range(0, 1024, 31):
            ground = w if len(members(w)) < 5 else 0
            self.assertEqual(with_of(w, 0, 0, t), [0, ground & 1, ground])
        self.assertEqual(with_of(EVERY, 0, 0, t), [0, 0, 0])

    def test_least(self):
        t = bytes_of(self.text())
        # A rule stands while there are no more than four: of ten, six others are left out.
        self.assertEqual(least(EVERY, EVERY, 0, 0, t), [0, bits(range(1, 7))])
        self.assertEqual(least(EVERY, EVERY, 18, 0, t), [0, bits(range(6))])
        self.assertEqual(least(EVERY, EVERY - 7, 18, 0, t), [0, bits(range(3, 9))])
        self.assertEqual(least(EVERY, EVERY - 15, 18, 0, t), [-3])
        self.assertEqual(least(EVERY, EVERY, 0, 1, t), [0, 0])
        self.assertEqual(least(0, EVERY, 18, 0, t), [0, 512])
        # One that stands is left out, or four are found.
        self.assertEqual(least(512, EVERY, 18, 1, t), [0, 512])
        self.assertEqual(least(512, EVERY - 512, 18, 1, t), [0, 15])
        self.assertEqual(least(EVERY, EVERY, 1, 0, t), [-3])

    def test_bares(self):
        t = bytes_of(self.text())
        # r0 stands with three others at most: any six of the nine others are left out.
        self.assertEqual(bares(EVERY, EVERY, 0, 0, t), [0, 84])
        # One of the first six stands: any four are left but the last four.
        one_of_six = 2 * read(self.text())[0].atoms().index("t6-1")
        self.assertEqual(bares(EVERY, EVERY, one_of_six, 0, t), [0, 209])
        # r9 is left out, or any four of the nine others are found.
        self.assertEqual(bares(512, EVERY, 18, 1, t), [0, 127])
        self.assertEqual(bares(0, EVERY, 0, 0, t), [0, 1])
        self.assertEqual(bares(EVERY, EVERY, 0, 1, t), [0, 1])
        self.assertEqual(bares(EVERY, EVERY, 1, 0, t), [0, 0])

    def test_bare(self):
        t = bytes_of(self.text())
        fours = [z for z in range(512) if len(members(z)) == 4]
        self.assertEqual(bare(512, EVERY, 18, 1, 0, LARGE, t), [0, 512] + fours)
        self.assertEqual(bare(512, EVERY, 18, 1, 1, 3, t), [0, 15, 23, 27])
        self.assertEqual(bare(512, EVERY, 18, 1, 126, LARGE, t), [0, 480])
        self.assertEqual(bare(512, EVERY, 18, 1, 127, LARGE, t), [0])
        sixes = [z for z in range(0, 1024, 2) if len(members(z)) == 6]
        self.assertEqual(bare(EVERY, EVERY, 0, 0, 0, LARGE, t), [0] + sixes)

    def test_needed(self):
        t = bytes_of(self.text())
        self.assertEqual(needed(EVERY, EVERY, 0, 0, t), [0, 0, EVERY - 1])
        self.assertEqual(needed(EVERY, EVERY - 15, 18, 0, t), [-3])
        self.assertEqual(needed(EVERY, EVERY - 7, 18, 0, t), [0, bits(range(3, 9)), bits(range(3, 9))])
        self.assertEqual(needed(512, EVERY, 18, 1, t), [0, 0, EVERY])
        self.assertEqual(needed(0, EVERY, 18, 0, t), [0, 512, 512])
        self.assertEqual(needed(EVERY, EVERY, 0, 1, t), [0, 0, 0])
        self.assertEqual(needed(EVERY, EVERY, 1, 0, t), [-3])
        # r9 is there again, and of the nine others six are left out.
        self.assertEqual(needed(511, EVERY, 18, 0, t), [0, 512, EVERY])

    def test_one_rule_that_outweighs_all_others(self):
        text = self.text() + "".join(f"weigh r9 > r{k}\n" for k in range(9))
        t = bytes_of(text)
        self.assertEqual(with_of(EVERY, 18, 0, t), [0, 1, 512])
        self.assertEqual(with_of(511, 0, 0, t), [0, 0, 0])
        self.assertEqual(with_of(512 + 31, 0, 0, t), [0, 0, 512])
        self.assertEqual(least(EVERY, EVERY, 18, 1, t), [0, 512])
        self.assertEqual(least(EVERY, EVERY - 512, 18, 1, t), [-3])
        self.assertEqual(least(EVERY, EVERY, 0, 0, t), [0, bits(range(1, 7))])

    def test_tips(self):
        t = bytes_of(self.text())
        # One weight takes no rule out of the way of all fours among the nine others.
        self.assertEqual(tips(EVERY, 0, 0, t), [0])
        self.assertEqual(tips(EVERY, 0, 1, t), [0] + all_pairs(range(10)))
        # Of five rules each is struck by the four others: one that it outweighs is enough.
        self.assertEqual(tips(31, 0, 0, t), [0, 0, 1, 0, 2, 0, 3, 0, 4])
        self.assertEqual(tips(512 + 15, 18, 0, t), [0, 9, 0, 9, 1, 9, 2, 9, 3])

    def test_tips_between_two_rows_by_weight(self):
        rows = [0, 1, 2, 4, 5, 6, 7, 8]
        t = bytes_of(self.text() + "".join(f"weigh r{k} > r{k + 1}\n" for k in rows))
        # r3 stands if it outweighs all the other row; r0 if it outweighs three of it.
        self.assertEqual(tips(EVERY, 6, 0, t), [0, 3, 4])
        pairs = [(x, y) for x in range(4) for y in range(4, 8)]
        self.assertEqual(tips(EVERY, 0, 0, t), [0] + [number for pair in pairs for number in pair])

    def test_all_rules_in_a_row_by_weight(self):
        text = self.text() + "".join(f"weigh r{k} > r{k + 1}\n" for k in range(9))
        t = bytes_of(text)
        for w in list(range(0, 1024, 31)) + [EVERY]:
            ground = bits(members(w)[:4])
            self.assertEqual(with_of(w, 0, 1, t), [0, 1 - (ground & 1), ground])
        self.assertEqual(tips(EVERY, 0, 0, t), [0])


class FiveOfTenNeededTest(unittest.TestCase):
    """Any five of ten rules do, no four do: 252 bare changes, as many as there can be."""

    T = bytes_of(FiveOfTenTest.text().replace("t10-5 -> ~z", "t10-5 -> a"))

    def test_bares(self):
        self.assertEqual(bares(0, EVERY, 0, 0, self.T), [0, 252])
        # All ten are there: six are left out.
        self.assertEqual(bares(EVERY, EVERY, 0, 1, self.T), [0, 210])
        # Of five that are there one is left out; four others found would not make up for it.
        self.assertEqual(bares(31, EVERY, 0, 1, self.T), [0, 5])
        self.assertEqual(bares(15, EVERY, 0, 0, self.T), [0, 6])
        self.assertEqual(bares(0, 31, 0, 0, self.T), [0, 1])
        self.assertEqual(bares(0, 15, 0, 0, self.T), [0, 0])
        self.assertEqual(bares(0, EVERY, 0, 2, self.T), [0, 0])

    def test_bare(self):
        fives = [z for z in range(1024) if len(members(z)) == 5]
        self.assertEqual(bare(0, EVERY, 0, 0, 0, 252, self.T), [0] + fives)
        self.assertEqual(bare(0, EVERY, 0, 0, LARGE, LARGE, self.T), [0])
        self.assertEqual(bare(0, EVERY, 0, 0, 250, 2, self.T), [0] + fives[250:])
        self.assertEqual(bare(0, EVERY, 0, 0, 100, 50, self.T), [0] + fives[100:150])
        self.assertEqual(bare(31, EVERY, 0, 1, 0, LARGE, self.T), [0, 1, 2, 4, 8, 16])

    def test_needed(self):
        self.assertEqual(needed(0, EVERY, 0, 0, self.T), [0, 0, EVERY])
        self.assertEqual(needed(0, 31, 0, 0, self.T), [0, 31, 31])
        self.assertEqual(needed(0, 15, 0, 0, self.T), [-3])
        self.assertEqual(needed(15, EVERY, 0, 0, self.T), [0, 0, EVERY - 15])

    def test_least(self):
        self.assertEqual(least(0, EVERY, 0, 0, self.T), [0, 31])
        self.assertEqual(least(EVERY, EVERY, 0, 1, self.T), [0, 63])
        self.assertEqual(least(682, EVERY - 682, 0, 1, self.T), [-3])


class LongChainTest(unittest.TestCase):
    """64 laws, 64 atoms, 10 rules, 8,192 bytes: each literal waits for the one before, each name is long."""

    RULES = ("a", "bb", "ccc", "d-----------001", "d-----------002", "d-----------003") + tuple(f"e{k}" for k in range(4))

    def text(self):
        chain = [f"p-----------{k:03}" for k in range(54)]
        laws = [(f"l-----------{k:03}", f"{chain[k]} -> {chain[k + 1]}") for k in range(53)]
        laws += [(f"m{k}", f"{chain[53]}, {rule} -> ~{chain[0]}") for k, rule in enumerate(self.RULES[:3])]
        laws += [(f"n{k}", f"~{rule} -> {chain[0]}") for k, rule in enumerate(self.RULES[:8])]
        rules = [(rule, f"=> {chain[0]}" if rule == "e3" else f"=> {rule}") for rule in self.RULES]
        return filled(clauses("rule", rules[::-1]) + clauses("law", laws[::-1]))

    def test_it_is_as_large_as_can_be(self):
        text = self.text()
        self.assertEqual(len(text), 8192)
        case = read(text)[0]
        self.assertEqual([len(case.laws), len(case.rules), len(case.atoms())], [64, 10, 64])

    def test_the_chain_is_gone_through(self):
        t = bytes_of(self.text())
        # Atoms by name: the ten rules first, then the chain. a, bb, ccc each clash with e3.
        last = 2 * 63
        free = EVERY - bits([0, 1, 2, 9])
        self.assertEqual(with_of(EVERY, last, 0, t), [0, 0, free])
        self.assertEqual(with_of(EVERY, last, 3, t), [0, 1, free])
        self.assertEqual(with_of(EVERY - 7, last, 0, t), [0, 1, EVERY - 7])
        self.assertEqual(with_of(EVERY - 7, last + 1, 2, t), [0, 1, EVERY - 7])
        self.assertEqual(with_of(EVERY - 512, last, 0, t), [0, 0, EVERY - 512])
        self.assertEqual(with_of(EVERY, last + 2, 0, t), [-1])
        self.assertEqual(with_of(EVERY + 1, last, 0, t), [-1])
        self.assertEqual(with_of(EVERY, last, 0, t + [10]), [-1])
        self.assertEqual(with_of(EVERY, last, 0, t[:-1] + [32]), [-6])


    def test_least(self):
        t = bytes_of(self.text())
        last = 2 * 63
        # The chain begins with e3, which stands once a, bb and ccc are left out.
        self.assertEqual(least(EVERY, EVERY, last, 0, t), [0, 7])
        self.assertEqual(least(EVERY, EVERY - 1, last, 0, t), [-3])
        self.assertEqual(least(EVERY, EVERY, last, 3, t), [0, 0])
        self.assertEqual(least(0, EVERY, last, 0, t), [0, 512])
        self.assertEqual(least(7, EVERY, last, 0, t), [0, 512 + 7])
        self.assertEqual(least(512, EVERY, last, 1, t), [0, 1])
        self.assertEqual(least(512, EVERY - 7, last, 1, t), [0, 512])
        self.assertEqual(least(EVERY, EVERY, last, 2, t), [-3])
        self.assertEqual(least(EVERY, EVERY, last + 2, 0, t), [-1])
        self.assertEqual(least(EVERY, EVERY + 1, last, 0, t), [-1])
        self.assertEqual(least(EVERY, EVERY, last, 0, t + [10]), [-1])
        self.assertEqual(least(EVERY, EVERY, last, 0, t[:-1] + [32]), [-6])

    def test_bares(self):
        t = bytes_of(self.text())
        last = 2 * 63
        self.assertEqual(bares(EVERY, EVERY, last, 0, t), [0, 1])
        self.assertEqual(bares(512, EVERY, last, 1, t), [0, 4])
        self.assertEqual(bare(512, EVERY, last, 1, 0, LARGE, t), [0, 1, 2, 4, 512])
        self.assertEqual(bare(EVERY, EVERY, last, 0, 0, LARGE, t), [0, 7])
        self.assertEqual(bare(EVERY, EVERY - 1, last, 0, 0, LARGE, t), [0])
        self.assertEqual(bare(EVERY, EVERY, last, 0, 0, LARGE, t + [10]), [-1])
        self.assertEqual(bare(EVERY, EVERY, last, 0, 0, LARGE, t[:-1] + [32]), [-6])
        self.assertEqual(needed(512, EVERY, last, 1, t), [0, 0, 512 + 7])
        self.assertEqual(needed(EVERY, EVERY, last, 0, t), [0, 7, 7])
        self.assertEqual(needed(EVERY, EVERY - 1, last, 0, t), [-3])
        self.assertEqual(needed(EVERY, EVERY, last, 0, t + [10]), [-1])
        self.assertEqual(needed(EVERY, EVERY, last, 0, t[:-1] + [32]), [-6])
        self.assertEqual(bares(EVERY, EVERY, last, 3, t), [0, 1])
        self.assertEqual(bares(EVERY, EVERY - 1, last, 0, t), [0, 0])
        self.assertEqual(bares(EVERY, EVERY, last + 2, 0, t), [-1])
        self.assertEqual(bares(EVERY, EVERY, last, 0, t + [10]), [-1])
        self.assertEqual(bares(EVERY, EVERY, last, 0, t[:-1] + [32]), [-6])


    def test_tips(self):
        t = bytes_of(self.text())
        last = 2 * 63
        # a outweighs bb and ccc: what outweighs a outweighs them, and what one of them outweighs, a outweighs.
        self.assertEqual(tips(EVERY, last, 0, t), [0, 9, 0])
        self.assertEqual(tips(EVERY - 1, last, 0, t), [0])
        self.assertEqual(tips(EVERY, 0, 0, t), [0, 0, 9, 1, 9, 2, 9])
        self.assertEqual(tips(EVERY, last + 2, 0, t), [-1])
        self.assertEqual(tips(EVERY + 1, last, 0, t), [-1])
        self.assertEqual(tips(EVERY, last, 0, t + [10]), [-1])
        self.assertEqual(tips(EVERY, last, 0, t[:-1] + [32]), [-6])


class LongestBodiesTest(unittest.TestCase):
    def test_bodies_of_six_at_every_turn(self):
        names = [f"x{k:02}" for k in range(54)]
        rows = []
        for k in range(54):
            body = [f"r{(k + step) % 10}" for step in range(5)] + ([names[k - 1]] if k else ["r7"])
            rows.append((f"l{k}", f"{', '.join(body)} -> {names[k]}"))
        rules = [(f"r{k}", f"{', '.join(names[k:k + 6])} => {names[k + 6]}") for k in range(10)]
        text = clauses("rule", rules) + clauses("law", rows[::-1])
        self.assertIsNone(fault(text))
        t = bytes_of(text)
        self.assertEqual(with_of(EVERY, 2 * 63, 0, t), [0, 1, EVERY])
        for left in range(10):
            self.assertEqual(with_of(EVERY - 2**left, 2 * 63, 0, t), [0, 0, EVERY - 2**left])
        # The last of the chain needs all ten rules.
        for w in (0, 1, 682, 1022, EVERY):
            self.assertEqual(least(w, EVERY, 2 * 63, 0, t), [0, EVERY - w])
        self.assertEqual(least(EVERY, EVERY, 2 * 63, 1, t), [0, 1])
        self.assertEqual(least(EVERY, 768, 2 * 63, 1, t), [0, 256])
        self.assertEqual(least(0, EVERY - 1, 2 * 63, 0, t), [-3])
        self.assertEqual(bares(0, EVERY, 2 * 63, 0, t), [0, 1])
        self.assertEqual(bares(EVERY, EVERY, 2 * 63, 1, t), [0, 10])
        self.assertEqual(bare(EVERY, EVERY, 2 * 63, 1, 0, LARGE, t), [0] + [2**k for k in range(10)])
        self.assertEqual(needed(682, EVERY, 2 * 63, 0, t), [0, EVERY - 682, EVERY - 682])
        self.assertEqual(needed(EVERY, EVERY, 2 * 63, 1, t), [0, 0, EVERY])
        self.assertEqual(tips(EVERY, 2 * 63, 0, t), [0] + all_pairs(range(10)))
        self.assertEqual(tips(EVERY, 2 * 63, 1, t), [0])

    def test_many_short_lines(self):
        text = filled("rule a: => p\nrule bb: => ~p\nrule ccc: => q\n")
        self.assertEqual(len(text), 8192)
        self.assertEqual(with_of(7, 6, 0, bytes_of(text)), [0, 1, 5])


if __name__ == "__main__":
    unittest.main()
