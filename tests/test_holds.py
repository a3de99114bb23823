"""What holds, over many objects drawn by lot; that taken back all is as it was is in test_changes."""

import random
import unittest
from fractions import Fraction

from tests.lines import (
    BALANCE, BOUNDS, EACH, FIRST, FREE, GAP, LOST, MEAN, MOST, RULE, SONS, SPREAD, START, STATE, TOTAL, ask, by_age,
    last, signed,
)


def drawn_object(lot):
    """Calls that tell an object without a rule: a few or many sons (those beyond 40 are refused) and first men."""
    told = [(START, lot.randint(1, 10))]
    for x in lot.sample(range(13), lot.randint(1, 13)):
        told.append((SONS, x, lot.randint(0, 9)))
    for e in lot.sample(range(21), lot.randint(1, 21)):
        told.append((FIRST, e, lot.randint(0, 9)))
    return told


def drawn_rule(lot):
    a = lot.choice((0, 0, 1, 2, 3, 5, 8, 20, 39))
    return RULE, a, lot.randint(a + 1, min(40, a + lot.choice((1, 4, 9, 40))))


def drawn_objects(many, seed):
    lot = random.Random(seed)
    for turn in range(many):
        told = drawn_object(lot)
        yield told
        yield told + [drawn_rule(lot)]


def gap_of(told):
    return last(*told, (STATE,))[0]


def totals(told):
    return [answer[1] for answer in ask(*told, *[(TOTAL, n) for n in range(4)])[-4:]]


class NoneLostNoneTwice(unittest.TestCase):
    def test_the_next_and_the_lost_are_all_sons(self):
        some_lost = 0
        for told in drawn_objects(150, 1):
            men = totals(told)
            sons = last(*told, (BALANCE,))[0]
            for n in range(3):
                answer, lost, born = last(*told, (LOST, n))
                self.assertEqual(answer, 0)
                self.assertEqual(born, men[n + 1])
                self.assertEqual(lost + born, men[n] * sons)
                some_lost += lost > 0 and born > 0
                if told[-1][0] != RULE:
                    self.assertEqual(lost, 0)
        self.assertGreater(some_lost, 50)


class NobodyTooOld(unittest.TestCase):
    def test_by_a_rule(self):
        seen = 0
        for told in drawn_objects(150, 2):
            if told[-1][0] == RULE:
                number, a, e = told[-1]
                gap = gap_of(told)
                bounds = last(*told, (BOUNDS,))
                self.assertEqual(bounds[0], e - a)
                self.assertEqual(signed(*bounds[1:3]), gap - e + 1)
                self.assertEqual(signed(*bounds[3:]), gap - a)
                for n in (1, 2, 3):
                    spread = last(*told, (SPREAD, n))
                    if spread != [-33]:
                        seen += 1
                        self.assertLessEqual(signed(*spread[3:]), gap - a)
                        self.assertGreater(signed(*spread[1:3]), gap - e)
        self.assertGreater(seen, 100)

    def test_the_bounds_are_reached(self):
        # First men of all ages from 0 to 20 and sons at all ages: every grade from -20 to 12 is there.
        told = [(START, 6)] + [(FIRST, e, 1) for e in range(21)] + [(SONS, x, 1) for x in range(13)]
        for a, e in ((0, 13), (0, 1), (3, 8), (12, 13)):
            found = last(*told, (RULE, a, e), (SPREAD, 1))
            self.assertEqual(found[1:], last(*told, (RULE, a, e), (BOUNDS,))[1:])


class IfTheyBalance(unittest.TestCase):
    def test_ages_together(self):
        signs = set()
        for told in drawn_objects(40, 3):
            if told[-1][0] != RULE:
                sons, sign, much = last(*told, (BALANCE,))
                balance = signed(sign, much)
                signs.add((balance > 0) - (balance < 0))
                ages = [by_age(told, n) for n in range(4)]
                sums = [sum(age * men for age, men in found.items()) for found in ages]
                for n in range(3):
                    self.assertEqual(sums[n + 1], sons * sums[n] + sum(ages[n].values()) * balance)
        self.assertTrue({1, -1} <= signs)

    def test_the_mean_drifts_by_the_gap_less_the_father_s_age(self):
        seen = 0
        for told in drawn_objects(100, 4):
            if told[-1][0] != RULE and last(*told, (MEAN, 1)) != [-33]:
                seen += 1
                each = last(*told, (EACH,))
                drift = gap_of(told) - Fraction(signed(*each[1:3]), each[3])
                means = [last(*told, (MEAN, n)) for n in range(4)]
                means = [Fraction(signed(*mean[1:3]), mean[3]) for mean in means]
                self.assertEqual([means[n + 1] - means[n] for n in range(3)], [drift] * 3)
        self.assertGreater(seen, 50)

    def test_balance_and_each_agree(self):
        for told in drawn_objects(100, 5):
            sons, sign, much = last(*told, (BALANCE,))
            each = last(*told, (EACH,))
            if sons == 0:
                self.assertEqual(([sign, much], each), ([0, 0], [-33]))
            else:
                self.assertEqual(each[0], sons)
                mean = Fraction(signed(*each[1:3]), each[3])
                self.assertEqual([mean.numerator, mean.denominator], each[2:])
                self.assertEqual(signed(sign, much), sons * (gap_of(told) - mean))


class OneAgeEach(unittest.TestCase):
    def test_born_at_one_age_of_their_fathers_alone(self):
        lot = random.Random(6)
        for turn in range(40):
            told = [call for call in drawn_object(lot) if call[0] != SONS]
            x, many = lot.randint(0, 12), lot.randint(1, 9)
            told.append((SONS, x, many))
            drift = gap_of(told) - x
            ages = [by_age(told, n) for n in range(4)]
            for n in range(3):
                self.assertEqual(ages[n + 1], {age + drift: many * men for age, men in ages[n].items()})


class NeverFewer(unittest.TestCase):
    def check(self, told, more):
        for n in range(4):
            before, behind = by_age(told, n), by_age(more, n)
            for age, men in before.items():
                self.assertGreaterEqual(behind.get(age, 0), men)

    def test_by_more_first_men(self):
        lot = random.Random(7)
        for told in drawn_objects(20, 7):
            e = lot.randint(0, 20)
            there = by_age(told, 0).get(e, 0)
            for n in range(there, 10, 3):
                self.check(told, told + [(FIRST, e, n)])

    def test_by_a_wider_rule(self):
        lot = random.Random(8)
        for told in drawn_objects(30, 8):
            if told[-1][0] == RULE:
                number, a, e = told[-1]
                wider = (RULE, lot.randint(0, a), lot.randint(e, 40))
                self.check(told, told[:-1] + [wider])
                self.check(told, told + [(FREE,)])


class AllAreSomewhere(unittest.TestCase):
    def test_from_60_before_to_80_behind(self):
        for told in drawn_objects(30, 9):
            self.assertEqual([sum(by_age(told, n).values()) for n in range(4)], totals(told))


class TheMost(unittest.TestCase):
    def test_spread_and_most_as_the_ages_one_by_one(self):
        for told in drawn_objects(40, 10):
            for n in range(4):
                ages = by_age(told, n)
                spread, most = ask(*told, (SPREAD, n), (MOST, n))[-2:]
                if not ages:
                    self.assertEqual([spread, most], [[-33], [-33]])
                else:
                    least, greatest = signed(*spread[1:3]), signed(*spread[3:])
                    self.assertEqual([least, greatest, spread[0]], [min(ages), max(ages), max(ages) - min(ages)])
                    self.assertEqual(most[3], max(ages.values()))
                    self.assertEqual(signed(*most[1:3]), min(age for age in ages if ages[age] == most[3]))

    def test_at_least_as_many_as_the_average(self):
        for told in drawn_objects(150, 11):
            for n, total in enumerate(totals(told)):
                if total > 0:
                    spread, most = ask(*told, (SPREAD, n), (MOST, n))[-2:]
                    self.assertGreaterEqual(most[3] * (spread[0] + 1), total)
                    self.assertTrue(signed(*spread[1:3]) <= signed(*most[1:3]) <= signed(*spread[3:]))


class OneGapOrAnother(unittest.TestCase):
    def test_without_a_rule_the_gap_moves_all_alike(self):
        for told in drawn_objects(15, 12):
            if told[-1][0] != RULE:
                wider = gap_of(told) % 10 + 1
                moved = wider - gap_of(told)
                for n in range(4):
                    ages = by_age(told, n)
                    self.assertEqual(by_age(told + [(GAP, wider)], n), {age + n * moved: ages[age] for age in ages})


if __name__ == "__main__":
    unittest.main()
