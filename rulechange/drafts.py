"""A case as its text tells it, by names, with all that is wrong with a line but what needs numbers."""

from rulechange.lines import atom_of, read_clause, read_weight, split_lines
from rulechange.refusals import NoCase

MOST_LAWS = 64
MOST_RULES = 10
MOST_ATOMS = 64


class Draft:
    def __init__(self):
        self.laws = []
        self.rules = []
        self.weights = []
        self.atoms = {}


def read_draft(t):
    draft = Draft()
    for line in split_lines(t):
        add_line(draft, line.split(" "))
    return draft


def add_line(draft, words):
    if words[0] == "law":
        add_law(draft, read_clause(words, "->"))
    elif words[0] == "rule":
        add_rule(draft, read_clause(words, "=>"))
    elif words[0] == "weigh":
        add_weight(draft, read_weight(words))
    else:
        raise NoCase()


def add_law(draft, law):
    check_new(draft, law, draft.laws)
    draft.laws.append(law)
    add_atoms(draft, law.body + [law.head])
    check_counts(draft)


def add_rule(draft, rule):
    check_new(draft, rule, draft.rules)
    draft.rules.append(rule)
    add_atoms(draft, rule.body + [rule.head, rule.name])
    check_counts(draft)


def check_new(draft, clause, kin):
    if has_name(draft.laws, clause.name) or has_name(draft.rules, clause.name):
        raise NoCase()
    if len(set(clause.body)) < len(clause.body):
        raise NoCase()
    for other in kin:
        if other.body == clause.body and other.head == clause.head:
            raise NoCase()


def has_name(clauses, name):
    return any([clause.name == name for clause in clauses])


def add_atoms(draft, literals):
    for literal in literals:
        draft.atoms[atom_of(literal)] = True


def check_counts(draft):
    if len(draft.laws) > MOST_LAWS or len(draft.rules) > MOST_RULES or len(draft.atoms) > MOST_ATOMS:
        raise NoCase()


def add_weight(draft, weight):
    if not has_name(draft.rules, weight[0]) or not has_name(draft.rules, weight[1]):
        raise NoCase()
    draft.weights.append(weight)
