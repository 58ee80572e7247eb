"""The calls."""

from rulechange.cases import follow_each, read_case
from rulechange.changes import find_bare, find_least, find_needed
from rulechange.goals import MOST_WHAT, Goal, is_so
from rulechange.refusals import NoCase, NoChange, OutOfRange
from rulechange.strikes import find_ground, find_least_clashes, find_struck
from rulechange.tips import find_tips

MOST_BYTES = 8192
DONE = 0
OUT_OF_RANGE = -1
NO_CHANGE = -3
NO_CASE = -6


def with_of(w, literal, what, t):
    goal = Goal(literal, what)
    return answer([w], goal, t, lambda case: tell_with(case, w, goal))


def least(w, may, literal, what, t):
    goal = Goal(literal, what)
    return answer([w, may], goal, t, lambda case: [find_least(case, w, may, goal)])


def bares(w, may, literal, what, t):
    goal = Goal(literal, what)
    return answer([w, may], goal, t, lambda case: [len(find_bare(case, w, may, goal))])


def bare(w, may, literal, what, start, most, t):
    goal = Goal(literal, what)
    return answer([w, may], goal, t, lambda case: find_bare(case, w, may, goal)[start:start + most])


def needed(w, may, literal, what, t):
    goal = Goal(literal, what)
    return answer([w, may], goal, t, lambda case: find_needed(case, w, may, goal))


def tips(w, literal, what, t):
    goal = Goal(literal, what)
    return answer([w], goal, t, lambda case: find_tips(case, w, goal))


def answer(sets, goal, t, tell):
    try:
        return [DONE] + tell(read_asked(sets, goal, t))
    except OutOfRange:
        return [OUT_OF_RANGE]
    except NoCase:
        return [NO_CASE]
    except NoChange:
        return [NO_CHANGE]


def read_asked(sets, goal, t):
    if len(t) > MOST_BYTES:
        raise OutOfRange()
    case = read_case(t)
    for chosen in sets:
        if chosen >> len(case.rules) != 0:
            raise OutOfRange()
    if goal.literal >= 2 * case.atom_count or goal.what > MOST_WHAT:
        raise OutOfRange()
    return case


def tell_with(case, w, goal):
    followed = follow_each(case)
    struck = find_struck(find_least_clashes(case, followed), case.outweighed)
    ground = find_ground(struck, w)
    return [1 if is_so(goal, followed[ground]) else 0, ground]
