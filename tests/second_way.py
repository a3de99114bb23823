"""A second way to reckon what a list of calls answers, and lists drawn by lot to compare both."""

from fractions import Fraction
from itertools import product

from tests.lines import (
    AGAIN, BACK, BALANCE, BETWEEN, BOUNDS, CHANGES, COUNT, EACH, FIRST, FREE, GAP, HUGE, LOST, MEAN, MOST, RULE, SONS,
    SPREAD, START, STATE, TOLD_SONS, TOTAL, YOUNGER,
)


class Second:
    """The document's words reckoned man by man: each row of births by itself, none step by step.

    What is taken back is reckoned by making all changes that are left anew, from the start on.
    """

    def __init__(self, gap):
        self.begun = gap
        self.done = []
        self.undone = []
        self.oldest = 0
        self.clear()

    def clear(self):
        self.gap = self.begun
        self.sons = {}
        self.firsts = {}
        self.rule = None
        self.found = {}

    def answer(self, call):
        number, given = call[0], call[1:]
        if number == START:
            if given[0] not in range(1, 11):
                return [-22]
            self.__init__(given[0])
            return [0]
        if number in CHANGES:
            answer = self.change(number, given)
            if answer[0] >= 0:
                self.done.append(call)
                self.undone = []
                self.oldest = max(self.oldest, len(self.done) - 20)
            return answer
        if number in (BACK, AGAIN):
            return self.turn(number)
        if number in (BALANCE, EACH, TOLD_SONS, BOUNDS, STATE):
            return self.tell_itself(number)
        return self.tell(number, given)

    def turn(self, number):
        if number == BACK and len(self.done) == self.oldest or number == AGAIN and not self.undone:
            return [-2]
        if number == BACK:
            self.undone.append(self.done.pop())
        else:
            self.done.append(self.undone.pop())
        self.clear()
        for call in self.done:
            if self.change(call[0], call[1:])[0] < 0:
                raise AssertionError("refused when made anew: %r" % (call,))
        return [len(self.done) - self.oldest if number == BACK else len(self.undone)]

    def change(self, number, given):
        self.found = {}
        if number == GAP:
            (g,) = given
            if g not in range(1, 11):
                return [-22]
            if g == self.gap:
                return [-17]
            self.gap, before = g, self.gap
            return [before]
        if number == SONS:
            x, n = given
            if x not in range(13) or n not in range(10):
                return [-22]
            wanted = {**self.sons, x: n}
            if sum(wanted.values()) > 40:
                return [-28]
            before = self.sons.get(x, 0)
            self.sons = wanted
            return [before]
        if number == FIRST:
            e, n = given
            if e not in range(21) or n not in range(10):
                return [-22]
            before = self.firsts.get(e, 0)
            self.firsts = {**self.firsts, e: n}
            return [before]
        wanted = tuple(given) if number == RULE else None
        if number == RULE and not (wanted[0] < wanted[1] <= 40):
            return [-22]
        if wanted == self.rule:
            return [-17] if number == RULE else [-6]
        self.rule = wanted
        return [0]

    def reckon(self, n):
        """By age, those of generation n; and how many of those who would be of it are lost at birth."""
        if n not in self.found:
            ages, lost = {}, 0
            births = [(x, sons) for x, sons in self.sons.items() if sons]
            for e, men in self.firsts.items():
                for row in product(births, repeat=n):
                    age, many, counted = e, men, [True]
                    for x, sons in row:
                        counted.append(self.rule is None or x - age in range(*self.rule))
                        many *= sons
                        age += self.gap - x
                    if all(counted) and many:
                        ages[age] = ages.get(age, 0) + many
                    elif all(counted[:-1]):
                        lost += many
            self.found[n] = ages, lost
        return self.found[n]

    def tell_itself(self, number):
        each = [x for x, sons in self.sons.items() for son in range(sons)]
        if number == TOLD_SONS:
            return [13] + [each.count(x) for x in range(13)]
        if number == BALANCE:
            balance = sum(self.gap - x for x in each)
            return [len(each), int(balance < 0), abs(balance)]
        if number == EACH:
            return [len(each)] + mean_of(sum(each), len(each)) if each else [-33]
        grades = [] if self.rule is None else list(range(*self.rule))
        if number == BOUNDS:
            ages = [self.gap - grade for grade in grades]
            return tell_both(ages[-1], ages[0], len(ages)) if ages else [-33]
        rule = [grades[0] + 1, grades[-1] + 1] if grades else [0, 0]
        changes = [len(self.done) - self.oldest, len(self.undone)]
        return [self.gap] + rule + [sum(self.firsts.values())] + changes

    def tell(self, number, given):
        n = given[0]
        if n > 3 or number == LOST and n > 2:
            return [-22]
        if number == COUNT and given[1] > 80 or number == YOUNGER and given[1] > 60:
            return [-22]
        if number == BETWEEN and not given[1] <= given[2] <= 80:
            return [-22]
        if number == LOST:
            born, lost = self.reckon(n + 1)
            return [0, lost, sum(born.values())]
        ages = self.reckon(n)[0]
        total = sum(ages.values())
        if number == TOTAL:
            return [0, total]
        if number == COUNT:
            return [0, ages.get(given[1], 0)]
        if number == YOUNGER:
            return [0, ages.get(-given[1], 0)]
        if number == BETWEEN:
            return [0, sum(ages.get(e, 0) for e in range(given[1], given[2] + 1)), total]
        if total == 0:
            return [-33]
        if number == SPREAD:
            least, greatest = min(ages), max(ages)
            return tell_both(least, greatest, greatest - least)
        if number == MOST:
            most, least = sorted((-many, age) for age, many in ages.items())[0]
            return [0, int(least < 0), abs(least), -most]
        return [0] + mean_of(sum(age * men for age, men in ages.items()), total)


def tell_both(least, greatest, first):
    return [first, int(least < 0), abs(least), int(greatest < 0), abs(greatest)]


def mean_of(together, many):
    mean = Fraction(together, many)
    return [int(mean < 0), abs(mean.numerator), mean.denominator]


def second(calls):
    model = Second(None)
    return [model.answer(call) for call in calls]


def drawn_start(lot):
    return (START, lot.choice((0, 1, 4, 10, 11, HUGE)))


def drawn_change(lot, fathers=13):
    """One of the changes, mostly not refused; fathers bounds the ages at which they have sons."""
    small = lot.randint(0, 10)
    return lot.choice((
        (SONS, lot.randint(0, fathers), small), (SONS, lot.randint(0, min(fathers, 4)), lot.randint(7, 10)),
        (FIRST, lot.randint(0, 21), small), (FIRST, lot.randint(0, 3), small),
        (RULE, lot.randint(0, 6), lot.randint(1, 14)), (FREE,), (GAP, lot.randint(0, 11)),
    ))


def drawn_question(lot):
    n = lot.choice((0, 1, 1, 2, 2, 3, 3, 4))
    return lot.choice((
        (TOTAL, n), (COUNT, n, lot.randint(0, 20)), (YOUNGER, n, lot.randint(0, 15)),
        (BETWEEN, n, lot.randint(0, 9), lot.randint(5, 25)), (MEAN, n), (SPREAD, n), (MOST, n), (LOST, n),
        (BALANCE,), (EACH,), (TOLD_SONS,), (BOUNDS,), (STATE,),
    ))


def drawn_line(lot, size, fathers=13):
    calls = [(START, 0)] * lot.randint(0, 2) + [(START, lot.randint(1, 10))]
    turning = BACK
    while len(calls) < size:
        turn = lot.random()
        if turn < 0.005:
            calls.append(drawn_start(lot))
        elif turn < 0.3:
            # Mostly several in a row of one kind, as else hardly ever many are taken back.
            turning = lot.choice((turning, turning, turning, BACK, AGAIN))
            calls.append((turning,))
        elif turn < 0.65:
            calls.append(drawn_change(lot, fathers))
        else:
            calls.append(drawn_question(lot))
    return calls
