"""Goals: a literal's number, and what is asked of it."""

from rulechange.cases import has

STANDS = 0
STANDS_NOT = 1
FALLS = 2
MOST_WHAT = 3


def is_so(literals, literal, what):
    stands = has(literals, literal)
    falls = has(literals, literal ^ 1)
    if what == STANDS:
        return stands
    if what == STANDS_NOT:
        return not stands
    if what == FALLS:
        return falls
    return not stands and not falls
