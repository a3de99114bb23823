"""Point 3: gs_total, gs_count, gs_younger, gs_between, gs_mean, gs_spread, gs_most, gs_lost."""

import random
import unittest

from tests.lines import (
    BETWEEN, COUNT, FIRST, GAP, HUGE, LOST, MEAN, MOST, RULE, SONS, SPREAD, START, TOTAL, YOUNGER, ask, by_age,
    everything, last,
)
from tests.second_way import drawn_change, drawn_line, drawn_question, second

# Generation 1: two at 0 + 4 - 3 = 1, one at 0 + 4 - 6 = -2, and three times as many at 6 and 3.
SMALL = [(START, 4), (SONS, 3, 2), (SONS, 6, 1), (FIRST, 0, 1), (FIRST, 5, 3)]
FULL = [(START, 1), (SONS, 12, 9), (SONS, 11, 9), (SONS, 10, 9), (SONS, 9, 9), (SONS, 0, 4)]
FULL += [(FIRST, e, 9) for e in range(21)]


class Total(unittest.TestCase):
    def test_generations_0_to_3(self):
        self.assertEqual(
            ask(*SMALL, (TOTAL, 0), (TOTAL, 1), (TOTAL, 2), (TOTAL, 3))[-4:],
            [[0, 4], [0, 12], [0, 36], [0, 108]],
        )

    def test_generation_3_and_4(self):
        self.assertEqual(ask(*SMALL, (TOTAL, 3), (TOTAL, 4), (TOTAL, HUGE))[-3:], [[0, 108], [-22], [-22]])

    def test_the_most_there_can_be(self):
        self.assertEqual(
            ask(*FULL, (TOTAL, 0), (TOTAL, 1), (TOTAL, 2), (TOTAL, 3))[-4:],
            [[0, 189], [0, 7560], [0, 302400], [0, 12096000]],
        )

    def test_no_first_men_or_no_sons(self):
        self.assertEqual(ask((START, 4), (SONS, 3, 2), (TOTAL, 0), (TOTAL, 1))[-2:], [[0, 0], [0, 0]])
        self.assertEqual(ask((START, 4), (FIRST, 3, 2), (TOTAL, 0), (TOTAL, 1))[-2:], [[0, 2], [0, 0]])

    def test_all_are_somewhere(self):
        for told in (SMALL, SMALL + [(RULE, 0, 4)], FULL, FULL + [(GAP, 10)], FULL + [(RULE, 0, 6)]):
            for n in range(4):
                total = last(*told, (TOTAL, n))[1]
                self.assertGreater(total, 0)
                self.assertEqual(sum(by_age(told, n).values()), total)


class Ages(unittest.TestCase):
    def test_first_men(self):
        self.assertEqual(by_age(SMALL, 0), {0: 1, 5: 3})

    def test_generation_1_and_2(self):
        self.assertEqual(by_age(SMALL, 1), {1: 2, -2: 1, 6: 6, 3: 3})
        self.assertEqual(by_age(SMALL, 2), {2: 4, -1: 4, -4: 1, 7: 12, 4: 12, 1: 3})

    def test_born_at_one_age_alone(self):
        for x in range(13):
            for g in (1, 4, 10):
                told = [(START, g), (SONS, x, 2), (FIRST, 0, 1), (FIRST, 20, 5)]
                for n in range(4):
                    drift = n * (g - x)
                    self.assertEqual(by_age(told, n), {drift: 2 ** n, 20 + drift: 5 * 2 ** n})

    def test_a_rule_counts_from_a_on_and_below_e(self):
        # A man who came in at 2 has his sons in the grades -2 to 10.
        told = [(START, 5), (FIRST, 2, 1)] + [(SONS, x, 3) for x in range(13)]
        for a, e in ((0, 1), (0, 2), (3, 7), (9, 10), (10, 11), (10, 40), (0, 40)):
            wanted = {5 - grade: 3 for grade in range(-2, 11) if a <= grade < e}
            self.assertEqual(by_age(told + [(RULE, a, e)], 1), wanted)
        self.assertEqual(by_age(told + [(RULE, 11, 40)], 1), {})

    def test_sons_before_he_comes_in_are_lost_by_any_rule(self):
        told = [(START, 5), (FIRST, 20, 4), (SONS, 12, 9)]
        self.assertEqual(by_age(told, 1), {13: 36})
        self.assertEqual(by_age(told + [(RULE, 0, 40)], 1), {})

    def test_a_rule_holds_in_each_generation_but_not_for_first_men(self):
        # Sons come in at the age 0 + 1 - 6 = -5; theirs are born in the grade 11.
        told = [(START, 1), (FIRST, 0, 1), (FIRST, 20, 1), (SONS, 6, 1)]
        self.assertEqual([by_age(told + [(RULE, 0, 11)], n) for n in range(4)], [{0: 1, 20: 1}, {-5: 1}, {}, {}])
        self.assertEqual([by_age(told + [(RULE, 0, 12)], n) for n in range(4)], [{0: 1, 20: 1}, {-5: 1}, {-10: 1}, {}])

    def test_youngest_and_oldest(self):
        self.assertEqual(by_age([(START, 1), (FIRST, 0, 1), (SONS, 12, 1)], 3), {-33: 1})
        self.assertEqual(by_age([(START, 10), (FIRST, 20, 1), (SONS, 0, 1)], 3), {50: 1})

    def test_bounds_of_count(self):
        self.assertEqual(
            ask(*SMALL, (COUNT, 3, 80), (COUNT, 3, 81), (COUNT, 4, 0), (COUNT, HUGE, 1), (COUNT, 0, HUGE),
                (COUNT, 0, 5))[-6:],
            [[0, 0], [-22], [-22], [-22], [-22], [0, 3]],
        )

    def test_bounds_of_younger(self):
        self.assertEqual(
            ask(*SMALL, (YOUNGER, 3, 60), (YOUNGER, 3, 61), (YOUNGER, 4, 0), (YOUNGER, HUGE, 1),
                (YOUNGER, 0, HUGE))[-5:],
            [[0, 0], [-22], [-22], [-22], [-22]],
        )

    def test_0_below_0_is_0(self):
        self.assertEqual(ask(*SMALL, (YOUNGER, 0, 0), (COUNT, 0, 0))[-2:], [[0, 1], [0, 1]])

    def test_younger_is_below_0_alone(self):
        self.assertEqual(
            ask(*SMALL, (YOUNGER, 1, 2), (COUNT, 1, 2), (YOUNGER, 1, 1), (COUNT, 1, 1))[-4:],
            [[0, 1], [0, 0], [0, 0], [0, 2]],
        )


class Between(unittest.TestCase):
    def test_both_ends_are_within(self):
        self.assertEqual(
            ask(*SMALL, (BETWEEN, 1, 1, 6), (BETWEEN, 1, 2, 6), (BETWEEN, 1, 1, 5), (BETWEEN, 1, 3, 3),
                (BETWEEN, 1, 2, 2))[-5:],
            [[0, 11, 12], [0, 9, 12], [0, 5, 12], [0, 3, 12], [0, 0, 12]],
        )

    def test_those_below_0_are_in_all_alone(self):
        self.assertEqual(last(*SMALL, (BETWEEN, 1, 0, 80)), [0, 11, 12])

    def test_bounds(self):
        self.assertEqual(
            ask(*SMALL, (BETWEEN, 0, 5, 4), (BETWEEN, 0, 5, 5), (BETWEEN, 0, 0, 80), (BETWEEN, 0, 0, 81),
                (BETWEEN, 0, 80, 80))[-5:],
            [[-22], [0, 3, 4], [0, 4, 4], [-22], [0, 0, 4]],
        )

    def test_great_numbers_and_generations(self):
        self.assertEqual(
            ask(*SMALL, (BETWEEN, 3, 0, 80), (BETWEEN, 4, 0, 80), (BETWEEN, HUGE, 0, 1), (BETWEEN, 0, HUGE, HUGE),
                (BETWEEN, 0, HUGE, 0), (BETWEEN, 0, 0, HUGE))[-5:],
            [[-22]] * 5,
        )

    def test_nobody(self):
        self.assertEqual(last((START, 4), (BETWEEN, 2, 0, 80)), [0, 0, 0])

    def test_as_the_ages_one_by_one(self):
        for n in range(4):
            ages = by_age(FULL, n)
            total = sum(ages.values())
            bounds = [(low, high) for low in range(0, 23, 3) for high in range(low, 23)]
            found = ask(*FULL, *[(BETWEEN, n, low, high) for low, high in bounds])[len(FULL):]
            for (low, high), answer in zip(bounds, found):
                within = sum(ages.get(age, 0) for age in range(low, high + 1))
                self.assertEqual(answer, [0, within, total])


class Mean(unittest.TestCase):
    def test_with_nothing_in_common(self):
        # 3 times 5 by 4 men; 2 - 2 + 36 + 9 = 45 by 12; fathers are 4 on the average, as the gap is: so it stays.
        self.assertEqual(ask(*SMALL, (MEAN, 0), (MEAN, 1), (MEAN, 2))[-3:], [[0, 0, 15, 4]] * 3)
        self.assertEqual(last(*SMALL, (GAP, 7), (MEAN, 1)), [0, 0, 27, 4])

    def test_whole(self):
        self.assertEqual(last((START, 4), (FIRST, 6, 9), (MEAN, 0)), [0, 0, 6, 1])
        self.assertEqual(last((START, 4), (FIRST, 6, 4), (FIRST, 8, 4), (MEAN, 0)), [0, 0, 7, 1])

    def test_below_0(self):
        told = [(START, 1), (FIRST, 0, 2), (FIRST, 1, 4), (SONS, 12, 3)]
        self.assertEqual(
            ask(*told, (MEAN, 0), (MEAN, 1), (MEAN, 2), (MEAN, 3))[-4:],
            [[0, 0, 2, 3], [0, 1, 31, 3], [0, 1, 64, 3], [0, 1, 97, 3]],
        )

    def test_just_below_0(self):
        told = [(START, 1), (FIRST, 0, 1), (SONS, 2, 1)]
        self.assertEqual(ask(*told, (MEAN, 1), (FIRST, 1, 1), (MEAN, 1))[-3:], [[0, 1, 1, 1], [0], [0, 1, 1, 2]])

    def test_0(self):
        self.assertEqual(last((START, 4), (FIRST, 0, 7), (MEAN, 0)), [0, 0, 0, 1])
        balanced = [(START, 4), (FIRST, 0, 1), (SONS, 2, 3), (SONS, 6, 3)]
        self.assertEqual(ask(*balanced, (MEAN, 1), (MEAN, 3))[-2:], [[0, 0, 0, 1], [0, 0, 0, 1]])

    def test_nobody(self):
        self.assertEqual(ask((START, 4), (SONS, 1, 1), (MEAN, 0), (MEAN, 3))[-2:], [[-33], [-33]])
        self.assertEqual(ask((START, 4), (FIRST, 1, 1), (MEAN, 0), (MEAN, 1))[-2:], [[0, 0, 1, 1], [-33]])
        self.assertEqual(last(*SMALL, (RULE, 39, 40), (MEAN, 1)), [-33])
        self.assertEqual(last((START, 4), (FIRST, 1, 1), (FIRST, 1, 0), (MEAN, 0)), [-33])

    def test_out_of_bounds_is_told_ahead_of_nobody(self):
        self.assertEqual(ask((START, 4), (MEAN, 3), (MEAN, 4), (MEAN, HUGE))[-3:], [[-33], [-22], [-22]])


class Spread(unittest.TestCase):
    def test_above_0(self):
        self.assertEqual(last((START, 4), (FIRST, 3, 1), (FIRST, 7, 2), (FIRST, 20, 1), (SPREAD, 0)), [17, 0, 3, 0, 20])

    def test_at_0(self):
        self.assertEqual(last(*SMALL, (SPREAD, 0)), [5, 0, 0, 0, 5])
        self.assertEqual(last((START, 4), (FIRST, 0, 2), (SPREAD, 0)), [0, 0, 0, 0, 0])
        self.assertEqual(last((START, 4), (FIRST, 0, 2), (SONS, 4, 1), (SONS, 9, 1), (SPREAD, 1)), [5, 1, 5, 0, 0])

    def test_the_least_below_0(self):
        self.assertEqual(ask(*SMALL, (SPREAD, 1), (SPREAD, 2), (SPREAD, 3))[-3:], [
            [8, 1, 2, 0, 6], [11, 1, 4, 0, 7], [14, 1, 6, 0, 8],
        ])

    def test_both_below_0(self):
        told = [(START, 1), (FIRST, 0, 2), (FIRST, 1, 4), (SONS, 12, 3), (SONS, 10, 1)]
        self.assertEqual(ask(*told, (SPREAD, 1), (SPREAD, 3))[-2:], [[3, 1, 11, 1, 8], [7, 1, 33, 1, 26]])

    def test_one_age_alone(self):
        self.assertEqual(last((START, 4), (FIRST, 6, 9), (SPREAD, 0)), [0, 0, 6, 0, 6])
        self.assertEqual(last((START, 4), (FIRST, 6, 9), (SONS, 12, 1), (SPREAD, 2)), [0, 1, 10, 1, 10])

    def test_those_who_are_lost_do_not_count(self):
        # Of 1, -2, 6 and 3 the rule leaves 1 (grade 3) and 3 (grade 1).
        self.assertEqual(last(*SMALL, (RULE, 0, 6), (SPREAD, 1)), [2, 0, 1, 0, 3])

    def test_ages_told_anew_with_nobody_do_not_count(self):
        told = [(START, 4), (FIRST, 2, 1), (FIRST, 5, 1), (FIRST, 9, 1), (FIRST, 2, 0), (FIRST, 9, 0)]
        self.assertEqual(last(*told, (SPREAD, 0)), [0, 0, 5, 0, 5])

    def test_widest(self):
        self.assertEqual(last((START, 1), (FIRST, 0, 1), (FIRST, 20, 1), (SONS, 0, 1), (SONS, 12, 1), (SPREAD, 3)),
                         [56, 1, 33, 0, 23])

    def test_nobody(self):
        self.assertEqual(ask((START, 4), (SONS, 1, 1), (SPREAD, 0), (SPREAD, 3))[-2:], [[-33], [-33]])
        self.assertEqual(ask((START, 4), (FIRST, 1, 1), (SPREAD, 0), (SPREAD, 1))[-2:], [[0, 0, 1, 0, 1], [-33]])
        self.assertEqual(last(*SMALL, (RULE, 39, 40), (SPREAD, 1)), [-33])

    def test_generation_3_and_4(self):
        self.assertEqual(ask(*SMALL, (SPREAD, 3), (SPREAD, 4), (SPREAD, HUGE))[-2:], [[-22], [-22]])
        self.assertEqual(ask((START, 4), (SPREAD, 3), (SPREAD, 4), (SPREAD, HUGE))[-3:], [[-33], [-22], [-22]])


class Most(unittest.TestCase):
    def test_above_0(self):
        self.assertEqual(ask(*SMALL, (MOST, 0), (MOST, 1))[-2:], [[0, 0, 5, 3], [0, 0, 6, 6]])

    def test_at_0(self):
        self.assertEqual(last(*SMALL, (FIRST, 0, 4), (MOST, 0)), [0, 0, 0, 4])

    def test_below_0(self):
        told = [(START, 1), (FIRST, 0, 2), (FIRST, 1, 4), (SONS, 12, 3)]
        self.assertEqual(
            ask(*told, (MOST, 1), (MOST, 2), (MOST, 3))[-3:],
            [[0, 1, 10, 12], [0, 1, 21, 36], [0, 1, 32, 108]],
        )

    def test_of_like_ones_the_least(self):
        # Generation 2 has 12 at 7 and 12 at 4.
        self.assertEqual(last(*SMALL, (MOST, 2)), [0, 0, 4, 12])
        for order in ((9, 2, 14), (14, 9, 2), (2, 14, 9)):
            told = [(START, 4)] + [(FIRST, e, 5) for e in order] + [(FIRST, 1, 4), (FIRST, 0, 1)]
            self.assertEqual(last(*told, (MOST, 0)), [0, 0, 2, 5])

    def test_of_like_ones_below_0_and_above_the_least(self):
        told = [(START, 5), (FIRST, 0, 2), (SONS, 2, 3), (SONS, 5, 3), (SONS, 8, 3), (SONS, 9, 2)]
        self.assertEqual(last(*told, (MOST, 1)), [0, 1, 3, 6])
        told = [(START, 1), (FIRST, 0, 2), (SONS, 5, 3), (SONS, 7, 3)]
        self.assertEqual(last(*told, (MOST, 1)), [0, 1, 6, 6])

    def test_the_most_there_can_be(self):
        told = [(START, 1)] + [(SONS, x, 9) for x in (3, 4, 5, 6)] + [(SONS, 7, 4)] + [(FIRST, e, 9) for e in range(21)]
        found = last(*told, (MOST, 3))
        self.assertEqual(found, second(told + [(MOST, 3)])[-1])
        self.assertEqual(found[3], max(by_age(told, 3).values()))

    def test_nobody(self):
        self.assertEqual(ask((START, 4), (SONS, 1, 1), (MOST, 0), (MOST, 3))[-2:], [[-33], [-33]])
        self.assertEqual(ask((START, 4), (FIRST, 1, 1), (MOST, 0), (MOST, 1))[-2:], [[0, 0, 1, 1], [-33]])
        self.assertEqual(last(*SMALL, (RULE, 39, 40), (MOST, 1)), [-33])

    def test_generation_3_and_4(self):
        self.assertEqual(ask(*SMALL, (MOST, 3), (MOST, 4), (MOST, HUGE))[-3:], [[0, 0, 5, 36], [-22], [-22]])
        self.assertEqual(ask((START, 4), (MOST, 3), (MOST, 4), (MOST, HUGE))[-3:], [[-33], [-22], [-22]])


class Lost(unittest.TestCase):
    def test_without_a_rule_none(self):
        self.assertEqual(ask(*SMALL, (LOST, 0), (LOST, 1), (LOST, 2))[-3:], [[0, 0, 12], [0, 0, 36], [0, 0, 108]])

    def test_with_a_rule(self):
        # Below grade 6 and from 0 on: of 3 less 0, 6 less 0, 3 less 5 and 6 less 5 the first and the last are within.
        # Of 1 and 3, twice and thrice, 3 less 1, 6 less 1, 3 less 3, 6 less 3: all of them are.
        told = SMALL + [(RULE, 0, 6)]
        self.assertEqual(ask(*told, (LOST, 0), (LOST, 1))[-2:], [[0, 7, 5], [0, 0, 15]])
        self.assertEqual(last(*SMALL, (RULE, 0, 5), (LOST, 1)), [0, 2, 13])

    def test_in_generations_0_1_2(self):
        # Each comes in 5 terms younger than his father: sons are born in the grades 6, 11 and 16.
        told = [(START, 1), (FIRST, 0, 4), (SONS, 6, 2)]
        for e, wanted in (
            (17, [[0, 0, 8], [0, 0, 16], [0, 0, 32]]),
            (16, [[0, 0, 8], [0, 0, 16], [0, 32, 0]]),
            (11, [[0, 0, 8], [0, 16, 0], [0, 0, 0]]),
            (6, [[0, 8, 0], [0, 0, 0], [0, 0, 0]]),
        ):
            self.assertEqual(ask(*told, (RULE, 0, e), (LOST, 0), (LOST, 1), (LOST, 2))[-3:], wanted)

    def test_those_below_the_first_grade(self):
        told = [(START, 5), (FIRST, 2, 1)] + [(SONS, x, 3) for x in range(13)]
        for a in range(11):
            self.assertEqual(last(*told, (RULE, a, 40), (LOST, 0)), [0, 3 * (2 + a), 3 * (11 - a)])

    def test_sons_before_he_comes_in_are_lost_by_any_rule(self):
        told = [(START, 5), (FIRST, 20, 4), (SONS, 12, 9)]
        self.assertEqual(ask(*told, (LOST, 0), (RULE, 0, 40), (LOST, 0))[-3:], [[0, 0, 36], [0], [0, 36, 0]])

    def test_nobody_or_no_sons(self):
        self.assertEqual(ask((START, 4), (SONS, 1, 1), (LOST, 0), (LOST, 2))[-2:], [[0, 0, 0], [0, 0, 0]])
        told = [(START, 4), (FIRST, 1, 1), (RULE, 0, 1)]
        self.assertEqual(ask(*told, (LOST, 0), (LOST, 2))[-2:], [[0, 0, 0], [0, 0, 0]])

    def test_the_most_there_can_be(self):
        self.assertEqual(ask(*FULL, (LOST, 2), (RULE, 39, 40), (LOST, 0), (LOST, 1))[-4:],
                         [[0, 0, 12096000], [0], [0, 7560, 0], [0, 0, 0]])

    def test_generation_2_and_3(self):
        self.assertEqual(ask(*SMALL, (LOST, 2), (LOST, 3), (LOST, 4), (LOST, HUGE))[-4:],
                         [[0, 0, 108], [-22], [-22], [-22]])
        self.assertEqual(ask((START, 4), (LOST, 2), (LOST, 3))[-2:], [[0, 0, 0], [-22]])


class SecondWay(unittest.TestCase):
    def check(self, calls):
        self.assertEqual(ask(*calls), second(calls))

    def test_everything_of_some_objects(self):
        self.check(SMALL + everything())
        self.check(SMALL + [(RULE, 1, 5)] + everything())
        self.check(SMALL + [(RULE, 3, 40), (GAP, 10)] + everything())

    def test_changes_and_questions_drawn_by_lot(self):
        lot = random.Random(20)
        for turn in range(150):
            calls = [(START, lot.choice((0, 11, HUGE)))] * (turn % 3) + [(START, lot.randint(1, 10))]
            for step in range(40):
                calls.append(lot.choice((drawn_change, drawn_question))(lot))
            self.check(calls)

    def test_lines_drawn_by_lot(self):
        lot = random.Random(21)
        for turn in range(100):
            self.check(drawn_line(lot, 60))


if __name__ == "__main__":
    unittest.main()
