"""Changes: sets of rules that are left out or found. Those that do, and the bare ones, in order."""

from rulechange.cases import follow_each, has, is_within
from rulechange.goals import is_so_with
from rulechange.refusals import NoChange
from rulechange.strikes import find_least_clashes, find_struck, has_one_within


def find_doing(case, w, may, goal):
    followed = follow_each(case)
    struck = find_struck(find_least_clashes(case, followed), case.outweighed)
    return [change for change in parts_in_order(may) if is_so_with(goal, changed(w, change), followed, struck)]


def parts_in_order(whole):
    return sorted([part for part in range(whole + 1) if is_within(part, whole)], key=order_of)


def order_of(change):
    return (count_rules(change), change)


def count_rules(chosen):
    return sum([1 for rule in range(chosen.bit_length()) if has(chosen, rule)])


def changed(w, change):
    # A rule of the change that is in w is left out, one that isn't is found.
    return w ^ change


def find_least(case, w, may, goal):
    return need_one(find_doing(case, w, may, goal))[0]


def need_one(doing):
    if len(doing) == 0:
        raise NoChange()
    return doing


def find_bare(case, w, may, goal):
    return keep_bare(find_doing(case, w, may, goal))


def keep_bare(doing):
    bare = []
    # In order the parts of a change go ahead of it, and what does has a bare one within: no others need be asked.
    for change in doing:
        if not has_one_within(bare, change):
            bare.append(change)
    return bare


def find_needed(case, w, may, goal):
    doing = need_one(find_doing(case, w, may, goal))
    in_every = may
    for change in doing:
        in_every = in_every & change
    in_some = 0
    for change in keep_bare(doing):
        in_some = in_some | change
    return [in_every, in_some]
