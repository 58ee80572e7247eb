"""Goals, and whether one is so."""

from rulechange.cases import has
from rulechange.strikes import find_ground

STANDS = 0
STANDS_NOT = 1
FALLS = 2
MOST_WHAT = 3


class Goal:
    def __init__(self, literal, what):
        self.literal = literal
        self.what = what


def is_so_with(goal, on, followed, struck):
    return is_so(goal, followed[find_ground(struck, on)])


def is_so(goal, literals):
    stands = has(literals, goal.literal)
    falls = has(literals, goal.literal ^ 1)
    if goal.what == STANDS:
        return stands
    if goal.what == STANDS_NOT:
        return not stands
    if goal.what == FALLS:
        return falls
    return not stands and not falls
