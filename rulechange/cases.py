"""A case by numbers. A set of rules or of literals is a number, with a bit for each that is in it."""

from rulechange.drafts import read_draft
from rulechange.lines import atom_of, is_opposite
from rulechange.refusals import NoCase


class Case:
    def __init__(self, atom_count, laws, rules, rule_names, outweighed):
        self.atom_count = atom_count
        # Of each law, and of each rule: the set of its body, and the set of its head alone.
        self.laws = laws
        self.rules = rules
        # Of each rule: the set of its name's literal alone.
        self.rule_names = rule_names
        # Of each rule: the set of rules that it outweighs.
        self.outweighed = outweighed


def read_case(t):
    draft = read_draft(t)
    case = number_draft(draft)
    # No later line takes a weight or a law away, so these two faults still show when all lines are read.
    if outweighs_itself(case.outweighed):
        raise NoCase()
    if has_opposites(case, close(0, case.laws)):
        raise NoCase()
    return case


def number_draft(draft):
    atom_numbers = numbers_of(list(draft.atoms))
    rules = sorted(draft.rules, key=name_of)
    rule_numbers = numbers_of([rule.name for rule in rules])
    return Case(
        len(atom_numbers),
        [number_clause(law, atom_numbers) for law in sorted(draft.laws, key=name_of)],
        [number_clause(rule, atom_numbers) for rule in rules],
        [literal_set(rule.name, atom_numbers) for rule in rules],
        go_on([(rule_numbers[x], rule_numbers[y]) for x, y in draft.weights], len(rules)),
    )


def name_of(clause):
    return clause.name


def numbers_of(names):
    numbers = {}
    for number, name in enumerate(sorted(names)):
        numbers[name] = number
    return numbers


def number_clause(clause, atom_numbers):
    body = 0
    for literal in clause.body:
        body = body | literal_set(literal, atom_numbers)
    return (body, literal_set(clause.head, atom_numbers))


def literal_set(literal, atom_numbers):
    number = 2 * atom_numbers[atom_of(literal)]
    if is_opposite(literal):
        number = number + 1
    return 1 << number


def go_on(weights, rule_count):
    outweighed = [0] * rule_count
    for x, y in weights:
        outweighed[x] = outweighed[x] | (1 << y)
    for middle in range(rule_count):
        for x in range(rule_count):
            if has(outweighed[x], middle):
                outweighed[x] = outweighed[x] | outweighed[middle]
    return outweighed


def outweighs_itself(outweighed):
    return any([has(lighter, rule) for rule, lighter in enumerate(outweighed)])


def has(whole, number):
    return (whole >> number) & 1 == 1


def is_within(part, whole):
    return part & whole == part


def follow_each(case):
    # Of each set of rules, at its number's place: the set of literals that follow from it.
    followed = [close(0, case.laws)]
    for chosen in range(1, 1 << len(case.rules)):
        last = chosen.bit_length() - 1
        # What follows from a part follows from the whole, so nothing of it is worked out again.
        before = followed[chosen ^ (1 << last)]
        followed.append(close(before | case.rule_names[last], clauses_of(case, chosen)))
    return followed


def clauses_of(case, chosen):
    return case.laws + [clause for rule, clause in enumerate(case.rules) if has(chosen, rule)]


def close(literals, clauses):
    closed = literals
    waiting = clauses
    grown = True
    while grown:
        left = []
        for body, head in waiting:
            if is_within(body, closed):
                closed = closed | head
            else:
                left.append((body, head))
        grown = len(left) < len(waiting)
        waiting = left
    return closed


def has_opposites(case, literals):
    return any([(literals >> (2 * atom)) & 3 == 3 for atom in range(case.atom_count)])
