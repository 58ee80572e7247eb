"""The document's words, taken one by one and as slowly as they are told, to hold the program against.

It shares nothing with the program: sets here are frozensets of names, and every "some set", "every set"
and "least" is gone through whole.
"""

import re
from functools import lru_cache
from itertools import combinations, permutations

NAME = "[a-z][a-z0-9-]{0,14}"
LITERAL = f"~?{NAME}"
BODY = f"(?:{LITERAL}(?:, {LITERAL}){{0,5}} )?"
LAW = re.compile(f"law ({NAME}): ({BODY})-> ({LITERAL})")
RULE = re.compile(f"rule ({NAME}): ({BODY})=> ({LITERAL})")
WEIGH = re.compile(f"weigh ({NAME}) > ({NAME})")


def parts(members):
    """All sets within a set, smaller ones first."""
    members = sorted(members)
    for size in range(len(members) + 1):
        for part in combinations(members, size):
            yield frozenset(part)


def opposite(literal):
    return literal[1:] if literal.startswith("~") else "~" + literal


def split_body(words):
    return tuple(words.rstrip(" ").split(", ")) if words else ()


class Case:
    def __init__(self):
        self.laws = {}
        self.rules = {}
        self.heavier = set()
        self.follow_memo = {}
        self.struck_memo = {}
        self.ground_memo = {}

    def atoms(self):
        names = set(self.rules)
        for body, head in list(self.laws.values()) + list(self.rules.values()):
            names |= {literal.lstrip("~") for literal in body + (head,)}
        return sorted(names)

    def literals(self):
        return [sign + atom for atom in self.atoms() for sign in ("", "~")]

    def weigh(self, x, y):
        self.heavier.add((x, y))
        grown = True
        while grown:
            more = {(a, d) for a, b in self.heavier for c, d in self.heavier if b == c}
            grown = not more <= self.heavier
            self.heavier |= more

    def with_weight(self, x, y):
        """A case of its own, with the weight besides."""
        other = Case()
        other.laws, other.rules, other.heavier = self.laws, self.rules, set(self.heavier)
        other.weigh(x, y)
        return other

    def follows(self, rules):
        if rules not in self.follow_memo:
            self.follow_memo[rules] = self.work_out(rules)
        return self.follow_memo[rules]

    def work_out(self, rules):
        held = set(rules)
        clauses = list(self.laws.values()) + [self.rules[name] for name in rules]
        while True:
            more = {head for body, head in clauses if held.issuperset(body)} - held
            if not more:
                return held
            held |= more

    def clashes(self, rules):
        held = self.follows(rules)
        return any(opposite(literal) in held for literal in held)

    def strikes(self, whole, rule):
        return any(
            rule not in part
            and not any((rule, other) in self.heavier for other in part)
            and not self.clashes(part)
            and self.clashes(part | {rule})
            for part in parts(whole)
        )

    def struck(self):
        """Of each set of rules: the rules that it strikes."""
        if not self.struck_memo:
            for whole in parts(self.rules):
                self.struck_memo[whole] = {rule for rule in self.rules if self.strikes(whole, rule)}
        return self.struck_memo

    def grounds(self, on):
        """All sets of rules that have all that they defend."""
        struck = self.struck()
        within = [whole for whole in struck if whole <= on]
        for chosen in struck:
            defended = {
                rule
                for rule in on
                if all(whole & struck[chosen] for whole in within if rule in struck[whole])
            }
            if defended <= chosen:
                yield chosen

    def ground(self, on):
        on = frozenset(on)
        if on not in self.ground_memo:
            found = list(self.grounds(on))
            least_of = [chosen for chosen in found if all(chosen <= other for other in found)]
            assert len(least_of) == 1, least_of
            self.ground_memo[on] = least_of[0]
        return self.ground_memo[on]

    def so(self, on, literal, what):
        held = self.follows(self.ground(on))
        stands, falls = literal in held, opposite(literal) in held
        return [stands, not stands, falls, not stands and not falls][what]

    def doing(self, on, may, literal, what):
        """All changes of on within may that do."""
        return [change for change in parts(may) if self.so((on - change) | (change - on), literal, what)]

    def bare(self, on, may, literal, what):
        """All bare changes of on within may."""
        doing = self.doing(on, may, literal, what)
        return [change for change in doing if not any(other < change for other in doing)]

    def in_order(self, changes):
        return sorted(changes, key=lambda change: (len(change), self.number_of(change)))

    def set_of(self, number):
        return frozenset(name for bit, name in enumerate(sorted(self.rules)) if number >> bit & 1)

    def number_of(self, rules):
        return sum(2**bit for bit, name in enumerate(sorted(self.rules)) if name in rules)


@lru_cache(maxsize=16)
def read(text):
    """The case and None; or None and the fault's kind and place."""
    case = Case()
    place = 0
    while place < len(text):
        end = text.find("\n", place)
        if end < 0:
            return None, (1, len(text))
        kind = add_line(case, text[place:end])
        if kind:
            return None, (kind, place)
        place = end + 1
    return case, None


def add_line(case, line):
    for form, kin, most in ((LAW, case.laws, 64), (RULE, case.rules, 10)):
        told = form.fullmatch(line)
        if told:
            return add_clause(case, kin, most, told[1], (split_body(told[2]), told[3]))
    told = WEIGH.fullmatch(line)
    return add_weight(case, told[1], told[2]) if told else 1


def add_clause(case, kin, most, name, clause):
    if name in case.laws or name in case.rules:
        return 2
    if len(set(clause[0])) < len(clause[0]) or clause in kin.values():
        return 3
    kin[name] = clause
    if len(kin) > most or len(case.atoms()) > 64:
        return 4
    case.follow_memo.clear()
    if kin is case.laws and case.clashes(frozenset()):
        return 7
    return None


def add_weight(case, x, y):
    if x not in case.rules or y not in case.rules:
        return 5
    case.weigh(x, y)
    if any(a == b for a, b in case.heavier):
        return 6
    return None


def fault(text):
    return read(text)[1]


def refused(sets, literal, what, t):
    """A refusal, as a list, or the empty one."""
    if len(t) > 8192:
        return [-1]
    case, wrong = read(bytes(t).decode("latin-1"))
    if wrong:
        return [-6]
    if any(w >= 2 ** len(case.rules) for w in sets) or literal >= len(case.literals()) or what > 3:
        return [-1]
    return []


def asked(literal, t):
    """The case and the literal's name."""
    case = read(bytes(t).decode("latin-1"))[0]
    return case, case.literals()[literal]


def doing_of(w, may, literal, what, t):
    case, name = asked(literal, t)
    return case, case.doing(case.set_of(w), case.set_of(may), name, what)


def bare_of(w, may, literal, what, t):
    case, name = asked(literal, t)
    return case, case.bare(case.set_of(w), case.set_of(may), name, what)


def with_of(w, literal, what, t):
    if refused([w], literal, what, t):
        return refused([w], literal, what, t)
    case, name = asked(literal, t)
    on = case.set_of(w)
    return [0, int(case.so(on, name, what)), case.number_of(case.ground(on))]


def least(w, may, literal, what, t):
    if refused([w, may], literal, what, t):
        return refused([w, may], literal, what, t)
    case, doing = doing_of(w, may, literal, what, t)
    return [0, case.number_of(case.in_order(doing)[0])] if doing else [-3]


def bares(w, may, literal, what, t):
    if refused([w, may], literal, what, t):
        return refused([w, may], literal, what, t)
    return [0, len(bare_of(w, may, literal, what, t)[1])]


def bare(w, may, literal, what, start, most, t):
    if refused([w, may], literal, what, t):
        return refused([w, may], literal, what, t)
    case, changes = bare_of(w, may, literal, what, t)
    told = [0]
    for place, change in enumerate(case.in_order(changes)):
        if start <= place < start + most:
            told.append(case.number_of(change))
    return told


def needed(w, may, literal, what, t):
    if refused([w, may], literal, what, t):
        return refused([w, may], literal, what, t)
    case, doing = doing_of(w, may, literal, what, t)
    if not doing:
        return [-3]
    changes = bare_of(w, may, literal, what, t)[1]
    in_every = {rule for rule in case.rules if all(rule in change for change in doing)}
    in_some = {rule for rule in case.rules if any(rule in change for change in changes)}
    return [0, case.number_of(in_every), case.number_of(in_some)]


def tips(w, literal, what, t):
    if refused([w], literal, what, t):
        return refused([w], literal, what, t)
    case, name = asked(literal, t)
    told = [0]
    order = sorted(case.rules)
    for x, y in permutations(order, 2):
        both_are_in_w = {x, y} <= case.set_of(w)
        neither_outweighs = not {(x, y), (y, x)} & case.heavier
        if both_are_in_w and neither_outweighs and case.with_weight(x, y).so(case.set_of(w), name, what):
            told += [order.index(x), order.index(y)]
    return told
