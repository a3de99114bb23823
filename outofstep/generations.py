"""The calls on one object, and what is answered to them."""

from outofstep.descent import OLDEST_FATHER, OLDEST_FIRST, Descent
from outofstep.descent import ages_at_births, generation, lost_sons, next_generation
from outofstep.telling import ratio, with_sign

OUT_OF_BOUNDS = -22
TOO_MANY_SONS = -28
ALREADY_SO = -17
NO_RULE = -6
NOTHING_TO_TELL = -33
NO_CHANGE = -2

WIDEST_GAP = 10
MOST_AT_ONE_AGE = 9
MOST_SONS = 40
HIGHEST_GRADE = 40
LAST_GENERATION = 3
LAST_FATHERS = 2
OLDEST_ASKED = 80
YOUNGEST_ASKED = 60


def is_gap(g):
    return 1 <= g and g <= WIDEST_GAP


def gs_start(descent, given):
    g = given[0]
    if not is_gap(g):
        return [OUT_OF_BOUNDS]
    descent.begin(g)
    return [0]


def gs_sons(descent, given):
    x = given[0]
    n = given[1]
    if x > OLDEST_FATHER or n > MOST_AT_ONE_AGE:
        return [OUT_OF_BOUNDS]
    before = descent.sons[x]
    if sum(descent.sons) - before + n > MOST_SONS:
        return [TOO_MANY_SONS]
    descent.mark_change()
    descent.sons[x] = n
    return [before]


def gs_rule(descent, given):
    a = given[0]
    e = given[1]
    if e <= a or e > HIGHEST_GRADE:
        return [OUT_OF_BOUNDS]
    if descent.rule == (a, e):
        return [ALREADY_SO]
    descent.mark_change()
    descent.rule = (a, e)
    return [0]


def gs_free(descent, given):
    if descent.rule is None:
        return [NO_RULE]
    descent.mark_change()
    descent.rule = None
    return [0]


def gs_first(descent, given):
    e = given[0]
    n = given[1]
    if e > OLDEST_FIRST or n > MOST_AT_ONE_AGE:
        return [OUT_OF_BOUNDS]
    before = descent.firsts[e]
    descent.mark_change()
    descent.firsts[e] = n
    return [before]


def gs_gap(descent, given):
    g = given[0]
    if not is_gap(g):
        return [OUT_OF_BOUNDS]
    before = descent.gap
    if g == before:
        return [ALREADY_SO]
    descent.mark_change()
    descent.gap = g
    return [before]


def gs_total(descent, given):
    n = given[0]
    if n > LAST_GENERATION:
        return [OUT_OF_BOUNDS]
    return [0, sum(generation(descent, n).values())]


def gs_count(descent, given):
    n = given[0]
    e = given[1]
    if n > LAST_GENERATION or e > OLDEST_ASKED:
        return [OUT_OF_BOUNDS]
    return [0, generation(descent, n).get(e, 0)]


def gs_younger(descent, given):
    n = given[0]
    e = given[1]
    if n > LAST_GENERATION or e > YOUNGEST_ASKED:
        return [OUT_OF_BOUNDS]
    return [0, generation(descent, n).get(-e, 0)]


def gs_between(descent, given):
    n = given[0]
    low = given[1]
    high = given[2]
    if n > LAST_GENERATION or high < low or high > OLDEST_ASKED:
        return [OUT_OF_BOUNDS]
    ages = generation(descent, n)
    within = sum([men for age, men in ages.items() if low <= age and age <= high])
    return [0, within, sum(ages.values())]


def gs_mean(descent, given):
    n = given[0]
    if n > LAST_GENERATION:
        return [OUT_OF_BOUNDS]
    ages = generation(descent, n)
    if len(ages) == 0:
        return [NOTHING_TO_TELL]
    together = sum([age * men for age, men in ages.items()])
    return [0] + ratio(together, sum(ages.values()))


def gs_spread(descent, given):
    n = given[0]
    if n > LAST_GENERATION:
        return [OUT_OF_BOUNDS]
    ages = generation(descent, n)
    if len(ages) == 0:
        return [NOTHING_TO_TELL]
    least = min(ages.keys())
    greatest = max(ages.keys())
    return [greatest - least] + with_sign(least) + with_sign(greatest)


def gs_most(descent, given):
    n = given[0]
    if n > LAST_GENERATION:
        return [OUT_OF_BOUNDS]
    ages = generation(descent, n)
    if len(ages) == 0:
        return [NOTHING_TO_TELL]
    most = max(ages.values())
    least = min([age for age, men in ages.items() if men == most])
    return [0] + with_sign(least) + [most]


def gs_lost(descent, given):
    n = given[0]
    if n > LAST_FATHERS:
        return [OUT_OF_BOUNDS]
    fathers = generation(descent, n)
    return [0, lost_sons(descent, fathers), sum(next_generation(descent, fathers).values())]


def gs_balance(descent, given):
    sons = sum(descent.sons)
    return [sons] + with_sign(descent.gap * sons - ages_at_births(descent))


def gs_each(descent, given):
    sons = sum(descent.sons)
    if sons == 0:
        return [NOTHING_TO_TELL]
    return [sons] + ratio(ages_at_births(descent), sons)


def gs_told_sons(descent, given):
    return [len(descent.sons)] + descent.sons


def gs_bounds(descent, given):
    if descent.rule is None:
        return [NOTHING_TO_TELL]
    a = descent.rule[0]
    e = descent.rule[1]
    # A son born in a grade comes in at the gap less that grade; e itself doesn't count any more.
    return [e - a] + with_sign(descent.gap - (e - 1)) + with_sign(descent.gap - a)


def gs_back(descent, given):
    if len(descent.earlier) == 0:
        return [NO_CHANGE]
    descent.take_back()
    return [len(descent.earlier)]


def gs_again(descent, given):
    if len(descent.later) == 0:
        return [NO_CHANGE]
    descent.do_again()
    return [len(descent.later)]


def told_rule(rule):
    if rule is None:
        return [0, 0]
    # One more, so that a first grade of 0 isn't told as no rule is.
    return [rule[0] + 1, rule[1]]


def gs_state(descent, given):
    changes = [len(descent.earlier), len(descent.later)]
    return [descent.gap] + told_rule(descent.rule) + [sum(descent.firsts)] + changes


# The place of a call in both is its number; SIZES tells how many whole numbers follow that number.
CALLS = (
    gs_start, gs_sons, gs_rule, gs_free, gs_first, gs_gap,
    gs_total, gs_count, gs_younger, gs_between, gs_mean,
    gs_spread, gs_most, gs_lost, gs_balance, gs_each,
    gs_told_sons, gs_bounds, gs_back, gs_again, gs_state,
)
SIZES = (
    1, 2, 2, 0, 2, 1,
    1, 2, 2, 3, 1,
    1, 1, 1, 0, 0,
    0, 0, 0, 0, 0,
)


def answers(calls):
    """What is answered to each call of the list, with how many numbers that is ahead of it."""
    descent = Descent()
    told = []
    at = 0
    while at < len(calls):
        call = CALLS[calls[at]]
        size = SIZES[calls[at]]
        behind = at + 1 + size
        answer = call(descent, calls[at + 1:behind])
        told.append(len(answer))
        told.extend(answer)
        at = behind
    return told
