"""What the tests share: the calls told alike, texts by hand and by chance, and calls asked by names."""

import reference
from rulechange import desk

LARGE = 4294967295

BIRDS = """\
law tweety: -> penguin
law penguins: penguin -> bird
rule flies: bird => fly
rule flies-not: penguin => ~fly
weigh flies-not > flies
"""


def calls_of(told):
    """The calls of the program or of the reference, each by its name, all with the same arguments."""
    return {
        "with_of": lambda w, may, literal, what, t: told.with_of(w, literal, what, t),
        "least": told.least,
        "bares": told.bares,
        "bare": lambda w, may, literal, what, t: told.bare(w, may, literal, what, 0, LARGE, t),
        "needed": told.needed,
        "tips": lambda w, may, literal, what, t: told.tips(w, literal, what, t),
    }


CALLS = calls_of(desk)
CALLS_BY_WORDS = calls_of(reference)
CALLS_WITH_MAY = {name: call for name, call in CALLS.items() if name not in ("with_of", "tips")}


def bytes_of(text):
    return list(text.encode("ascii"))


def bits(numbers):
    return sum(2**number for number in numbers)


def members(w):
    return [number for number in range(w.bit_length()) if w >> number & 1]


class Asked:
    """A case's text, asked by names in the place of numbers. Answered sets come back as names run together."""

    def __init__(self, text):
        self.t = bytes_of(text)
        self.case = reference.read(text)[0]

    def number(self, rules):
        assert set(rules) <= set(self.case.rules)
        return self.case.number_of(set(rules))

    def literal(self, name):
        return self.case.literals().index(name)

    def names(self, number):
        return "".join(sorted(self.case.set_of(number)))

    def goal(self, rules, literal, what):
        return desk.with_of(self.number(rules), self.literal(literal), what, self.t)[1]

    def goals(self, rules, literal):
        return tuple(self.goal(rules, literal, what) for what in range(4))

    def ground(self, rules=None):
        rules = self.case.rules if rules is None else rules
        answer = desk.with_of(self.number(rules), 0, 0, self.t)
        assert answer[0] == 0 and len(answer) == 3, answer
        return sorted(self.case.set_of(answer[2]))

    def least(self, rules, may, literal, what):
        answer = desk.least(self.number(rules), self.number(may), self.literal(literal), what, self.t)
        assert len(answer) == (1 if answer[0] < 0 else 2), answer
        return answer[0] if answer[0] < 0 else self.names(answer[1])

    def bares(self, rules, may, literal, what):
        answer = desk.bares(self.number(rules), self.number(may), self.literal(literal), what, self.t)
        assert answer[0] == 0 and len(answer) == 2, answer
        return answer[1]

    def bare(self, rules, may, literal, what, start=0, most=LARGE):
        answer = desk.bare(self.number(rules), self.number(may), self.literal(literal), what, start, most, self.t)
        assert answer[0] == 0, answer
        return [self.names(number) for number in answer[1:]]

    def needed(self, rules, may, literal, what):
        answer = desk.needed(self.number(rules), self.number(may), self.literal(literal), what, self.t)
        assert len(answer) == (1 if answer[0] < 0 else 3), answer
        return answer[0] if answer[0] < 0 else (self.names(answer[1]), self.names(answer[2]))

    def tips(self, rules, literal, what):
        answer = desk.tips(self.number(rules), self.literal(literal), what, self.t)
        assert answer[0] == 0 and len(answer) % 2 == 1, answer
        order = sorted(self.case.rules)
        return [f"{order[x]}>{order[y]}" for x, y in zip(answer[1::2], answer[2::2])]


def make_literal(pick, names):
    return pick.choice(("", "~")) + pick.choice(names)


def make_clause(pick, word, arrow, name, names, sizes):
    body = [make_literal(pick, names) for part in range(pick.choice(sizes))]
    return f"{word} {name}: {', '.join(body)}{' ' * (len(body) > 0)}{arrow} {make_literal(pick, names)}\n"


def make_text(pick, rule_count):
    rules = [f"r{k}" for k in range(rule_count)]
    atoms = [f"p{k}" for k in range(pick.randint(1, 4))]
    lines = [make_clause(pick, "rule", "=>", name, atoms + atoms + rules, (0, 0, 0, 1, 1, 2)) for name in rules]
    laws = range(pick.randint(0, 5))
    lines += [make_clause(pick, "law", "->", f"l{k}", atoms + rules, (1, 1, 2, 2, 3)) for k in laws]
    pick.shuffle(lines)
    for told in range(pick.choice((0, 0, 1, 2, 4)) if rule_count > 1 else 0):
        heavy, light = pick.sample(rules, 2)
        lines.append(f"weigh {heavy} > {light}\n")
    return "".join(lines)


def make_dense_text(pick, rule_count):
    """Rules that mostly speak of the same few atoms and of one another, so that there are several ways to a goal."""
    rules = [f"r{k}" for k in range(rule_count)]
    # A body that always follows lets several rules have the same head.
    lines = [f"law f{k}: -> u{k}\n" for k in range(rule_count)]
    for k, name in enumerate(rules):
        body = pick.choice((f"u{k}", f"u{k}", f"u{k}, {make_literal(pick, ('p', 'q', 's'))}"))
        lines.append(f"rule {name}: {body} => {pick.choice(('p', 'p', 'p', '~p', '~p', 'q', '~q', 's'))}\n")
    for k in range(pick.randint(0, rule_count)):
        body = ", ".join(pick.sample(rules, min(rule_count, pick.choice((1, 1, 2)))))
        lines.append(f"law l{k}: {body} -> {pick.choice(('~' + pick.choice(rules), make_literal(pick, ('p', 'q'))))}\n")
    for told in range(pick.randint(0, rule_count) if rule_count > 1 else 0):
        heavy, light = pick.sample(rules, 2)
        lines.append(f"weigh {heavy} > {light}\n")
    return "".join(lines)


def make_case(pick, rule_count):
    make = pick.choice((make_text, make_dense_text, make_dense_text))
    while True:
        text = make(pick, rule_count)
        case = reference.read(text)[0]
        if case:
            return case, bytes_of(text)


def make_set(pick, case, full_of_ten):
    """All rules so many times of ten, else any set."""
    count = len(case.rules)
    return 2**count - 1 if pick.randrange(10) < full_of_ten else pick.randrange(2**count)


def make_goal(pick, case):
    literals = case.literals()
    # The atoms that rules fight over, more often than any.
    fought = [name for name in literals if name.strip("~") in ("p", "p0")]
    literal = pick.choice([pick.choice(literals)] + fought + fought)
    return literals.index(literal), pick.randrange(4)


def make_asked(pick, rule_counts):
    """W, may, a literal's number, what, and a case's text."""
    case, t = make_case(pick, pick.choice(rule_counts))
    asked = (make_set(pick, case, 3), make_set(pick, case, 7)) + make_goal(pick, case) + (t,)
    # Goals that are so already have the empty change alone to tell of: most are passed over.
    if desk.with_of(asked[0], asked[2], asked[3], t)[1] == 1 and pick.random() < 0.7:
        return make_asked(pick, rule_counts)
    return asked
