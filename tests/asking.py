"""What the tests share: the calls told alike, texts by hand and by chance, and calls asked by names."""

import reference
from rulechange import desk

LARGE = 4294967295

BIRDS = """\
law tweety: -> penguin
law penguins: penguin -> bird
rule flies: bird => fly
rule flies-not: penguin => ~fly
weigh flies-not > flies
"""


def calls_of(told):
    """The calls of the program or of the reference, each by its name, all with the same arguments."""
    return {
        "with_of": lambda w, may, literal, what, t: told.with_of(w, literal, what, t),
        "least": told.least,
    }


CALLS = calls_of(desk)
CALLS_BY_WORDS = calls_of(reference)
CALLS_WITH_MAY = {name: call for name, call in CALLS.items() if name not in ("with_of", "tips")}


def bytes_of(text):
    return list(text.encode("ascii"))


def bits(numbers):
    return sum(2**number for number in numbers)


def members(w):
    return [number for number in range(w.bit_length()) if w >> number & 1]


class Asked:
    """A case's text, asked by names in the place of numbers. Answered sets come back as names run together."""

    def __init__(self, text):
        self.t = bytes_of(text)
        self.case = reference.read(text)[0]

    def number(self, rules):
        assert set(rules) <= set(self.case.rules)
        return self.case.number_of(set(rules))

    def literal(self, name):
        return self.case.literals().index(name)

    def names(self, number):
        return "".join(sorted(self.case.set_of(number)))

    def goal(self, rules, literal, what):
        return desk.with_of(self.number(rules), self.literal(literal), what, self.t)[1]

    def goals(self, rules, literal):
        return tuple(self.goal(rules, literal, what) for what in range(4))

    def ground(self, rules=None):
        rules = self.case.rules if rules is None else rules
        answer = desk.with_of(self.number(rules), 0, 0, self.t)
        assert answer[0] == 0 and len(answer) == 3, answer
        return sorted(self.case.set_of(answer[2]))

    def least(self, rules, may, literal, what):
        answer = desk.least(self.number(rules), self.number(may), self.literal(literal), what, self.t)
        assert len(answer) == (1 if answer[0] < 0 else 2), answer
        return answer[0] if answer[0] < 0 else self.names(answer[1])


def make_literal(pick, names):
    return pick.choice(("", "~")) + pick.choice(names)


def make_clause(pick, word, arrow, name, names, sizes):
    body = [make_literal(pick, names) for part in range(pick.choice(sizes))]
    return f"{word} {name}: {', '.join(body)}{' ' * (len(body) > 0)}{arrow} {make_literal(pick, names)}\n"


def make_text(pick, rule_count):
    rules = [f"r{k}" for k in range(rule_count)]
    atoms = [f"p{k}" for k in range(pick.randint(1, 4))]
    lines = [make_clause(pick, "rule", "=>", name, atoms + atoms + rules, (0, 0, 0, 1, 1, 2)) for name in rules]
    laws = range(pick.randint(0, 5))
    lines += [make_clause(pick, "law", "->", f"l{k}", atoms + rules, (1, 1, 2, 2, 3)) for k in laws]
    pick.shuffle(lines)
    for told in range(pick.choice((0, 0, 1, 2, 4)) if rule_count > 1 else 0):
        heavy, light = pick.sample(rules, 2)
        lines.append(f"weigh {heavy} > {light}\n")
    return "".join(lines)


def make_case(pick, rule_count):
    while True:
        text = make_text(pick, rule_count)
        case = reference.read(text)[0]
        if case:
            return case, bytes_of(text)


def make_set(pick, case):
    return pick.choice((2 ** len(case.rules) - 1, pick.randrange(2 ** len(case.rules))))


def make_asked(pick, rule_counts):
    """W, may, a literal's number, what, and a case's text."""
    case, t = make_case(pick, pick.choice(rule_counts))
    return make_set(pick, case), make_set(pick, case), pick.randrange(len(case.literals())), pick.randrange(4), t
