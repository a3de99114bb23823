"""Lists of calls as tests write them, and a second way to reckon what they answer."""

from fractions import Fraction
from itertools import product

from outofstep.generations import answers

START, SONS, RULE, FREE, FIRST, GAP, TOTAL, COUNT, YOUNGER, BETWEEN, MEAN = range(11)
HUGE = 4294967295


def flat(calls):
    return [number for call in calls for number in call]


def split(told):
    """The answers of a list, one list each, by the counts ahead of them."""
    found = []
    at = 0
    while at < len(told):
        behind = at + 1 + told[at]
        if told[at] < 1 or behind > len(told):
            raise AssertionError("a count that does not fit: %r at %d" % (told, at))
        found.append(told[at + 1:behind])
        at = behind
    return found


def ask(*calls):
    found = split(answers(flat(calls)))
    if len(found) != len(calls):
        raise AssertionError("%d calls, %d answers" % (len(calls), len(found)))
    return found


def last(*calls):
    return ask(*calls)[-1]


def everything():
    """Calls that tell all there is to tell of an object, but for its gap, sons and rule."""
    calls = []
    for n in range(4):
        calls += [(TOTAL, n), (MEAN, n)]
        calls += [(COUNT, n, e) for e in range(81)]
        calls += [(YOUNGER, n, e) for e in range(1, 61)]
    return calls


class Second:
    """The document's words reckoned man by man: each row of births by itself, none step by step."""

    def __init__(self, gap):
        self.gap = gap
        self.sons = {}
        self.firsts = {}
        self.rule = None

    def answer(self, call):
        number, given = call[0], call[1:]
        if number in (START, SONS, RULE, FREE, FIRST, GAP):
            return self.change(number, given)
        return self.tell(number, given)

    def change(self, number, given):
        if number in (START, GAP):
            (g,) = given
            if g not in range(1, 11):
                return [-22]
            if number == START:
                self.__init__(g)
                return [0]
            if g == self.gap:
                return [-17]
            self.gap, before = g, self.gap
            return [before]
        if number == SONS:
            x, n = given
            if x not in range(13) or n not in range(10):
                return [-22]
            wanted = {**self.sons, x: n}
            if sum(wanted.values()) > 40:
                return [-28]
            before = self.sons.get(x, 0)
            self.sons = wanted
            return [before]
        if number == FIRST:
            e, n = given
            if e not in range(21) or n not in range(10):
                return [-22]
            before = self.firsts.get(e, 0)
            self.firsts = {**self.firsts, e: n}
            return [before]
        wanted = tuple(given) if number == RULE else None
        if number == RULE and not (wanted[0] < wanted[1] <= 40):
            return [-22]
        if wanted == self.rule:
            return [-17] if number == RULE else [-6]
        self.rule = wanted
        return [0]

    def ages(self, n):
        found = {}
        births = [(x, sons) for x, sons in self.sons.items() if sons]
        for e, men in self.firsts.items():
            for row in product(births, repeat=n):
                age, many = e, men
                for x, sons in row:
                    grade = x - age
                    if self.rule is not None and grade not in range(*self.rule):
                        many = 0
                    many *= sons
                    age += self.gap - x
                if many:
                    found[age] = found.get(age, 0) + many
        return found

    def tell(self, number, given):
        n = given[0]
        if n > 3:
            return [-22]
        if number == COUNT and given[1] > 80 or number == YOUNGER and given[1] > 60:
            return [-22]
        if number == BETWEEN and not given[1] <= given[2] <= 80:
            return [-22]
        ages = self.ages(n)
        total = sum(ages.values())
        if number == TOTAL:
            return [0, total]
        if number == COUNT:
            return [0, ages.get(given[1], 0)]
        if number == YOUNGER:
            return [0, ages.get(-given[1], 0)]
        if number == BETWEEN:
            return [0, sum(ages.get(e, 0) for e in range(given[1], given[2] + 1)), total]
        if total == 0:
            return [-33]
        mean = Fraction(sum(age * men for age, men in ages.items()), total)
        return [0, int(mean < 0), abs(mean.numerator), mean.denominator]


def second(calls):
    model = Second(None)
    return [model.answer(call) for call in calls]
