"""The calls on one object, and what is answered to them."""

from outofstep.descent import OLDEST_FATHER, OLDEST_FIRST, Descent, generation
from outofstep.telling import ratio

OUT_OF_BOUNDS = -22
TOO_MANY_SONS = -28
ALREADY_SO = -17
NO_RULE = -6
NOBODY = -33

WIDEST_GAP = 10
MOST_AT_ONE_AGE = 9
MOST_SONS = 40
HIGHEST_GRADE = 40
LAST_GENERATION = 3
OLDEST_ASKED = 80
YOUNGEST_ASKED = 60


def is_gap(g):
    return 1 <= g and g <= WIDEST_GAP


def gs_start(descent, given):
    g = given[0]
    if not is_gap(g):
        return [OUT_OF_BOUNDS]
    descent.begin(g)
    return [0]


def gs_sons(descent, given):
    x = given[0]
    n = given[1]
    if x > OLDEST_FATHER or n > MOST_AT_ONE_AGE:
        return [OUT_OF_BOUNDS]
    before = descent.sons[x]
    if sum(descent.sons) - before + n > MOST_SONS:
        return [TOO_MANY_SONS]
    descent.sons[x] = n
    return [before]


def gs_rule(descent, given):
    a = given[0]
    e = given[1]
    if e <= a or e > HIGHEST_GRADE:
        return [OUT_OF_BOUNDS]
    if descent.rule == (a, e):
        return [ALREADY_SO]
    descent.rule = (a, e)
    return [0]


def gs_free(descent, given):
    if descent.rule is None:
        return [NO_RULE]
    descent.rule = None
    return [0]


def gs_first(descent, given):
    e = given[0]
    n = given[1]
    if e > OLDEST_FIRST or n > MOST_AT_ONE_AGE:
        return [OUT_OF_BOUNDS]
    before = descent.firsts[e]
    descent.firsts[e] = n
    return [before]


def gs_gap(descent, given):
    g = given[0]
    if not is_gap(g):
        return [OUT_OF_BOUNDS]
    before = descent.gap
    if g == before:
        return [ALREADY_SO]
    descent.gap = g
    return [before]


def gs_total(descent, given):
    n = given[0]
    if n > LAST_GENERATION:
        return [OUT_OF_BOUNDS]
    return [0, sum(generation(descent, n).values())]


def gs_count(descent, given):
    n = given[0]
    e = given[1]
    if n > LAST_GENERATION or e > OLDEST_ASKED:
        return [OUT_OF_BOUNDS]
    return [0, generation(descent, n).get(e, 0)]


def gs_younger(descent, given):
    n = given[0]
    e = given[1]
    if n > LAST_GENERATION or e > YOUNGEST_ASKED:
        return [OUT_OF_BOUNDS]
    return [0, generation(descent, n).get(-e, 0)]


def gs_between(descent, given):
    n = given[0]
    low = given[1]
    high = given[2]
    if n > LAST_GENERATION or high < low or high > OLDEST_ASKED:
        return [OUT_OF_BOUNDS]
    ages = generation(descent, n)
    within = sum([men for age, men in ages.items() if low <= age and age <= high])
    return [0, within, sum(ages.values())]


def gs_mean(descent, given):
    n = given[0]
    if n > LAST_GENERATION:
        return [OUT_OF_BOUNDS]
    ages = generation(descent, n)
    if len(ages) == 0:
        return [NOBODY]
    together = sum([age * men for age, men in ages.items()])
    return [0] + ratio(together, sum(ages.values()))


# The place of a call in both is its number; SIZES tells how many whole numbers follow that number.
CALLS = (
    gs_start, gs_sons, gs_rule, gs_free, gs_first, gs_gap,
    gs_total, gs_count, gs_younger, gs_between, gs_mean,
)
SIZES = (
    1, 2, 2, 0, 2, 1,
    1, 2, 2, 3, 1,
)


def answers(calls):
    """What is answered to each call of the list, with how many numbers that is ahead of it."""
    descent = Descent()
    told = []
    at = 0
    while at < len(calls):
        call = CALLS[calls[at]]
        size = SIZES[calls[at]]
        behind = at + 1 + size
        answer = call(descent, calls[at + 1:behind])
        told.append(len(answer))
        told.extend(answer)
        at = behind
    return told
