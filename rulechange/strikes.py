"""Which sets strike which rules, what is defended, and the ground."""

from rulechange.cases import clashes, has, is_within


def find_least_clashes(case):
    found = []
    # A set's parts have smaller numbers, so a clash within it is found before it.
    for chosen in range(1 << len(case.rules)):
        if not has_one_within(found, chosen) and clashes(case, chosen):
            found.append(chosen)
    return found


def has_one_within(parts, whole):
    for part in parts:
        if is_within(part, whole):
            return True
    return False


def find_strikers(least_clashes, outweighed):
    # A least set that strikes a rule is a least clash that has the rule, without the rule:
    # what clashes goes on clashing with more rules, and what doesn't, not clashing with fewer.
    strikers = []
    for rule, lighter in enumerate(outweighed):
        strikers.append([
            clash ^ (1 << rule) for clash in least_clashes if has(clash, rule) and clash & lighter == 0
        ])
    return strikers


def find_struck(strikers, chosen):
    struck = 0
    for rule, sets in enumerate(strikers):
        if has_one_within(sets, chosen):
            struck = struck | (1 << rule)
    return struck


def find_defended(strikers, on, chosen):
    struck = find_struck(strikers, chosen)
    defended = 0
    for rule, sets in enumerate(strikers):
        if has(on, rule) and not has_one_within(sets, on & ~struck):
            defended = defended | (1 << rule)
    return defended


def find_ground(strikers, on):
    # More rules defend no fewer, so from the empty set on the least set is reached by steps that only add.
    ground = 0
    defended = find_defended(strikers, on, ground)
    while defended != ground:
        ground = defended
        defended = find_defended(strikers, on, ground)
    return ground
