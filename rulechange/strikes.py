"""Which sets strike which rules, and the ground."""

from rulechange.cases import has, has_opposites, is_within


def find_least_clashes(case, followed):
    found = []
    # A set's parts have smaller numbers, so a clash within it is found before it.
    for chosen, literals in enumerate(followed):
        if has_opposites(case, literals) and not has_one_within(found, chosen):
            found.append(chosen)
    return found


def has_one_within(parts, whole):
    for part in parts:
        if is_within(part, whole):
            return True
    return False


def find_struck(least_clashes, outweighed):
    # Of each set of rules, at its number's place: the set of rules that it strikes.
    struck = [0] * (1 << len(outweighed))
    # A least set that strikes a rule is a least clash that has the rule, without the rule:
    # what clashes goes on clashing with more rules, and what doesn't, not clashing with fewer.
    for rule, lighter in enumerate(outweighed):
        for clash in least_clashes:
            if has(clash, rule) and clash & lighter == 0:
                striker = clash ^ (1 << rule)
                struck[striker] = struck[striker] | (1 << rule)
    add_struck_by_parts(struck, len(outweighed))
    return struck


def add_struck_by_parts(struck, rule_count):
    # Rule by rule, each set takes over what it strikes without that rule: by the end, what any part of it strikes.
    for rule in range(rule_count):
        for chosen in range(1 << rule_count):
            if has(chosen, rule):
                struck[chosen] = struck[chosen] | struck[chosen ^ (1 << rule)]


def find_defended(struck, on, chosen):
    # A rule is defended if what is left of on, without the struck, doesn't strike it.
    return on & ~struck[on & ~struck[chosen]]


def find_ground(struck, on):
    # More rules defend no fewer, so from the empty set on the least set is reached by steps that only add.
    ground = 0
    defended = find_defended(struck, on, ground)
    while defended != ground:
        ground = defended
        defended = find_defended(struck, on, ground)
    return ground
