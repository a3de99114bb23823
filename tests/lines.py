"""Lists of calls as tests write them, and their answers one by one."""

from outofstep.generations import answers

START, SONS, RULE, FREE, FIRST, GAP, TOTAL, COUNT, YOUNGER, BETWEEN, MEAN = range(11)
SPREAD, MOST, LOST, BALANCE, EACH, TOLD_SONS, BOUNDS, BACK, AGAIN, STATE = range(11, 21)
CHANGES = (SONS, RULE, FREE, FIRST, GAP)
HUGE = 4294967295


def flat(calls):
    return [number for call in calls for number in call]


def split(told):
    """The answers of a list, one list each, by the counts ahead of them."""
    found = []
    at = 0
    while at < len(told):
        behind = at + 1 + told[at]
        if told[at] < 1 or behind > len(told):
            raise AssertionError("a count that does not fit: %r at %d" % (told, at))
        found.append(told[at + 1:behind])
        at = behind
    return found


def ask(*calls):
    found = split(answers(flat(calls)))
    if len(found) != len(calls):
        raise AssertionError("%d calls, %d answers" % (len(calls), len(found)))
    return found


def last(*calls):
    return ask(*calls)[-1]


def signed(sign, number):
    """What two numbers tell with a sign; there's no 0 below 0."""
    if sign not in (0, 1) or number < sign:
        raise AssertionError("not told with a sign: %r, %r" % (sign, number))
    return -number if sign else number


def by_age(told, n):
    """How many come in at each age from -60 to 80."""
    calls = [(YOUNGER, n, e) for e in range(60, 0, -1)] + [(COUNT, n, e) for e in range(81)]
    found = ask(*told, *calls)[len(told):]
    return {age: answer[1] for age, answer in zip(range(-60, 81), found) if answer[1]}


def everything():
    """Calls that tell all there is to tell of an object, but for its changes."""
    calls = [(TOLD_SONS,), (BALANCE,), (EACH,), (BOUNDS,)]
    for n in range(4):
        calls += [(TOTAL, n), (MEAN, n), (SPREAD, n), (MOST, n), (LOST, n)]
        calls += [(COUNT, n, e) for e in range(81)]
        calls += [(YOUNGER, n, e) for e in range(1, 61)]
    return calls


def as_it_is(told):
    """What tells two objects apart: the sons, the first men, the rule, the gap; and how many changes there are."""
    found = ask(*told, (TOLD_SONS,), *[(COUNT, 0, e) for e in range(21)], (STATE,))[len(told):]
    return found[:-1] + [found[-1][:4]], found[-1][4:]
