"""The calls."""

from rulechange.cases import follows, read_case
from rulechange.goals import MOST_WHAT, is_so
from rulechange.refusals import NoCase, OutOfRange
from rulechange.strikes import find_ground, find_least_clashes, find_strikers

MOST_BYTES = 8192
DONE = 0
OUT_OF_RANGE = -1
NO_CASE = -6


def with_of(w, literal, what, t):
    try:
        case = read_asked([w], literal, what, t)
    except OutOfRange:
        return [OUT_OF_RANGE]
    except NoCase:
        return [NO_CASE]
    strikers = find_strikers(find_least_clashes(case), case.outweighed)
    ground = find_ground(strikers, w)
    so = is_so(follows(case, ground), literal, what)
    return [DONE, 1 if so else 0, ground]


def read_asked(sets, literal, what, t):
    if len(t) > MOST_BYTES:
        raise OutOfRange()
    case = read_case(t)
    for chosen in sets:
        if chosen >> len(case.rules) != 0:
            raise OutOfRange()
    if literal >= 2 * case.atom_count or what > MOST_WHAT:
        raise OutOfRange()
    return case
