"""Tips: one weight more, with which a goal is so."""

from rulechange.cases import follow_each, has
from rulechange.goals import is_so_with
from rulechange.strikes import find_least_clashes, find_struck


def find_tips(case, w, goal):
    followed = follow_each(case)
    least_clashes = find_least_clashes(case, followed)
    found = []
    for x, y in free_pairs(w, case.outweighed):
        struck = find_struck(least_clashes, outweigh_more(case.outweighed, x, y))
        if is_so_with(goal, w, followed, struck):
            found.extend([x, y])
    return found


def free_pairs(w, outweighed):
    rules = [rule for rule in range(len(outweighed)) if has(w, rule)]
    pairs = []
    for x in rules:
        for y in rules:
            if x != y and not has(outweighed[x], y) and not has(outweighed[y], x):
                pairs.append((x, y))
    return pairs


def outweigh_more(outweighed, x, y):
    # x, and all that outweighs x, outweighs y, and all that y outweighs: nothing else follows by going on.
    added = outweighed[y] | (1 << y)
    return [lighter | added if rule == x or has(lighter, x) else lighter for rule, lighter in enumerate(outweighed)]
