"""Points 1, 2 and 4: gs_start and what is told of an object, changed and told again."""

import unittest

from tests.lines import (
    BALANCE, BETWEEN, BOUNDS, COUNT, EACH, FIRST, FREE, GAP, HUGE, LOST, MEAN, MOST, RULE, SONS, SPREAD, START, STATE,
    TOLD_SONS, TOTAL, YOUNGER, ask, everything, last,
)

# Sons at several ages of their fathers, several first men and a rule: 40 sons in all.
TOLD = [
    (START, 5), (SONS, 2, 9), (SONS, 4, 9), (SONS, 7, 9), (SONS, 9, 9), (SONS, 12, 4),
    (FIRST, 0, 3), (FIRST, 1, 9), (FIRST, 4, 2), (FIRST, 20, 1), (RULE, 1, 8),
]


class Start(unittest.TestCase):
    def test_gap_from_1_to_10(self):
        for g in range(1, 11):
            self.assertEqual(ask((START, g)), [[0]])

    def test_other_gaps_are_refused(self):
        for g in (0, 11, 12, 2147483648, HUGE):
            self.assertEqual(ask((START, g)), [[-22]])

    def test_refused_first_then_not(self):
        self.assertEqual(
            ask((START, 0), (START, 11), (START, 10), (GAP, 10), (GAP, 3)),
            [[-22], [-22], [0], [-17], [10]],
        )

    def test_it_sets_the_gap(self):
        for g in range(1, 11):
            self.assertEqual(last((START, g), (GAP, g)), [-17])
            self.assertEqual(last((START, g), (GAP, g % 10 + 1)), [g])
            self.assertEqual(last((START, g), (FIRST, 0, 1), (SONS, 0, 1), (COUNT, 1, g)), [0, 1])

    def test_nothing_is_told_behind_it(self):
        calls = [(START, 4), (FREE,), (TOTAL, 0), (TOTAL, 3), (MEAN, 0), (STATE,)]
        calls += [(SONS, x, 0) for x in range(13)] + [(FIRST, e, 0) for e in range(21)]
        self.assertEqual(ask(*calls), [[0], [-6], [0, 0], [0, 0], [-33], [4, 0, 0, 0, 0, 0]] + [[0]] * 34)

    def test_again_it_clears_all(self):
        new = [(FREE,)] + [(SONS, x, 0) for x in range(13)] + [(FIRST, e, 0) for e in range(21)]
        found = ask(*TOLD, (START, 5), *everything(), *new, (GAP, 5))
        behind = found[len(TOLD):]
        self.assertEqual(behind, ask((START, 5), *everything(), *new, (GAP, 5)))
        self.assertEqual(behind[-1], [-17])

    def test_again_it_lets_40_sons_be_told_anew(self):
        calls = TOLD + [(SONS, 0, 1), (START, 2), (SONS, 0, 1), (GAP, 2)]
        self.assertEqual(ask(*calls)[-4:], [[-28], [0], [0], [-17]])

    def test_refused_again_it_leaves_all(self):
        old = [(SONS, x, 0) for x in range(13)] + [(FIRST, e, 0) for e in range(21)]
        tail = everything() + [(RULE, 1, 8), (GAP, 5), (SONS, 0, 1)] + old
        plain = ask(*TOLD, *tail)[len(TOLD):]
        for g in (0, 11, HUGE):
            self.assertEqual(ask(*TOLD, (START, g), *tail)[len(TOLD):], [[-22]] + plain)


class Sons(unittest.TestCase):
    def test_answers_how_many_it_was(self):
        self.assertEqual(
            ask((START, 3), (SONS, 5, 2), (SONS, 5, 9), (SONS, 5, 9), (SONS, 5, 0), (SONS, 5, 1)),
            [[0], [0], [2], [9], [9], [0]],
        )

    def test_each_age_by_itself(self):
        calls = [(START, 3)] + [(SONS, x, x % 4 + 1) for x in range(13)] + [(SONS, x, 0) for x in range(13)]
        self.assertEqual(ask(*calls), [[0]] * 14 + [[x % 4 + 1] for x in range(13)])

    def test_age_12_and_13(self):
        self.assertEqual(ask((START, 3), (SONS, 12, 9), (SONS, 13, 1), (SONS, 12, 0)), [[0], [0], [-22], [9]])

    def test_9_and_10_sons(self):
        self.assertEqual(ask((START, 3), (SONS, 0, 9), (SONS, 0, 10), (SONS, 0, 3)), [[0], [0], [-22], [9]])

    def test_great_numbers(self):
        found = ask((START, 3), (SONS, HUGE, 1), (SONS, 1, HUGE), (SONS, HUGE, HUGE), (SONS, 1, 1))
        self.assertEqual(found, [[0], [-22], [-22], [-22], [0]])

    def test_40_and_41_in_all(self):
        filled = [(START, 3)] + [(SONS, x, 9) for x in range(4)]
        self.assertEqual(
            ask(*filled, (SONS, 12, 5), (SONS, 12, 4), (SONS, 11, 1), (SONS, 11, 0), (SONS, 12, 5), (SONS, 12, 3)),
            [[0]] * 5 + [[-28], [0], [-28], [0], [-28], [4]],
        )

    def test_told_anew_the_earlier_ones_do_not_count(self):
        filled = [(START, 3)] + [(SONS, x, 9) for x in range(4)] + [(SONS, 4, 4)]
        self.assertEqual(
            ask(*filled, (SONS, 0, 9), (SONS, 4, 5), (SONS, 0, 8), (SONS, 4, 6), (SONS, 4, 5), (SONS, 0, 9)),
            [[0]] * 6 + [[9], [-28], [9], [-28], [4], [-28]],
        )

    def test_out_of_bounds_is_told_ahead_of_too_many(self):
        filled = [(START, 3)] + [(SONS, x, 9) for x in range(4)] + [(SONS, 4, 4)]
        self.assertEqual(ask(*filled, (SONS, 13, 9), (SONS, 5, 10), (SONS, 5, 9))[-3:], [[-22], [-22], [-28]])

    def test_lost_sons_count_among_the_40(self):
        filled = [(START, 3), (RULE, 39, 40)] + [(SONS, x, 9) for x in range(4)]
        self.assertEqual(ask(*filled, (SONS, 4, 5), (SONS, 4, 4))[-2:], [[-28], [0]])


class First(unittest.TestCase):
    def test_answers_how_many_it_was(self):
        self.assertEqual(
            ask((START, 3), (FIRST, 7, 2), (FIRST, 7, 9), (FIRST, 7, 9), (FIRST, 7, 0), (FIRST, 7, 1)),
            [[0], [0], [2], [9], [9], [0]],
        )

    def test_age_20_and_21(self):
        self.assertEqual(
            ask((START, 3), (FIRST, 20, 9), (FIRST, 21, 1), (FIRST, 20, 0), (FIRST, 0, 4), (FIRST, 0, 1)),
            [[0], [0], [-22], [9], [0], [4]],
        )

    def test_9_and_10_men(self):
        self.assertEqual(ask((START, 3), (FIRST, 0, 9), (FIRST, 0, 10), (FIRST, 0, 3)), [[0], [0], [-22], [9]])

    def test_great_numbers(self):
        found = ask((START, 3), (FIRST, HUGE, 1), (FIRST, 1, HUGE), (FIRST, HUGE, HUGE), (TOTAL, 0))
        self.assertEqual(found, [[0], [-22], [-22], [-22], [0, 0]])

    def test_all_ages_can_be_full(self):
        calls = [(START, 3)] + [(FIRST, e, 9) for e in range(21)] + [(TOTAL, 0)]
        self.assertEqual(ask(*calls), [[0]] * 22 + [[0, 189]])


class Gap(unittest.TestCase):
    def test_answers_what_it_was(self):
        self.assertEqual(ask((START, 3), (GAP, 10), (GAP, 1), (GAP, 2)), [[0], [3], [10], [1]])

    def test_0_1_10_11(self):
        self.assertEqual(
            ask((START, 5), (GAP, 0), (GAP, 1), (GAP, 11), (GAP, 10), (GAP, HUGE), (GAP, 10)),
            [[0], [-22], [5], [-22], [1], [-22], [-17]],
        )

    def test_the_gap_that_there_is(self):
        self.assertEqual(ask((START, 5), (GAP, 5), (GAP, 6), (GAP, 6), (GAP, 5)), [[0], [-17], [5], [-17], [6]])

    def test_only_the_gap_changes(self):
        told = TOLD + [(GAP, 9)]
        self.assertEqual(
            ask(*told, *everything())[len(told):],
            ask((START, 9), *TOLD[1:], *everything())[len(TOLD):],
        )


class Rule(unittest.TestCase):
    def test_told_and_told_anew(self):
        self.assertEqual(
            ask((START, 5), (RULE, 0, 1), (RULE, 0, 1), (RULE, 0, 2), (RULE, 1, 2), (RULE, 0, 1)),
            [[0], [0], [-17], [0], [0], [0]],
        )

    def test_e_not_above_a(self):
        for a, e in ((0, 0), (7, 7), (8, 7), (40, 40), (HUGE, HUGE), (HUGE, 0), (HUGE, 40)):
            self.assertEqual(ask((START, 5), (RULE, a, e), (FREE,)), [[0], [-22], [-6]])

    def test_e_of_40_and_41(self):
        self.assertEqual(
            ask((START, 5), (RULE, 0, 41), (RULE, 39, 40), (RULE, 0, 40), (RULE, 40, 41), (RULE, 0, HUGE),
                (RULE, 0, 40)),
            [[0], [-22], [0], [0], [-22], [-22], [-17]],
        )

    def test_a_refused_rule_leaves_the_rule(self):
        self.assertEqual(ask((START, 5), (RULE, 2, 6), (RULE, 6, 2), (RULE, 2, 6))[-2:], [[-22], [-17]])


class Free(unittest.TestCase):
    def test_with_no_rule(self):
        self.assertEqual(ask((START, 5), (FREE,), (RULE, 2, 6), (FREE,), (FREE,)), [[0], [-6], [0], [0], [-6]])

    def test_the_same_rule_can_come_again(self):
        self.assertEqual(last((START, 5), (RULE, 2, 6), (FREE,), (RULE, 2, 6)), [0])

    def test_all_sons_count_again(self):
        plain = TOLD[:-1]
        told = TOLD + [(FREE,)]
        self.assertEqual(ask(*told, *everything())[len(told):], ask(*plain, *everything())[len(plain):])


class ToldSons(unittest.TestCase):
    def test_from_0_to_12(self):
        for x in range(13):
            wanted = [0] * 13
            wanted[x] = 9
            self.assertEqual(last((START, 3), (SONS, x, 9), (TOLD_SONS,)), [13] + wanted)

    def test_all_ages(self):
        calls = [(START, 3)] + [(SONS, x, x % 6) for x in range(13)]
        self.assertEqual(last(*calls, (TOLD_SONS,)), [13, 0, 1, 2, 3, 4, 5, 0, 1, 2, 3, 4, 5, 0])

    def test_none(self):
        self.assertEqual(last((START, 3), (TOLD_SONS,)), [13] + [0] * 13)

    def test_lost_sons_are_told_too(self):
        self.assertEqual(last(*TOLD, (RULE, 39, 40), (TOLD_SONS,)), [13, 0, 0, 9, 0, 9, 0, 0, 9, 0, 9, 0, 0, 4])

    def test_what_was_answered_earlier_stays(self):
        found = ask((START, 3), (SONS, 1, 2), (TOLD_SONS,), (SONS, 1, 5), (TOLD_SONS,))
        self.assertEqual([found[2][2], found[4][2]], [2, 5])


class Each(unittest.TestCase):
    def test_something_in_common(self):
        self.assertEqual(last((START, 3), (SONS, 3, 2), (SONS, 6, 1), (EACH,)), [3, 0, 4, 1])
        self.assertEqual(last((START, 3), (SONS, 3, 2), (SONS, 6, 4), (SONS, 7, 2), (EACH,)), [8, 0, 11, 2])

    def test_nothing_in_common(self):
        self.assertEqual(last((START, 3), (SONS, 3, 2), (SONS, 5, 1), (EACH,)), [3, 0, 11, 3])
        self.assertEqual(last((START, 3), (SONS, 1, 1), (SONS, 0, 8), (EACH,)), [9, 0, 1, 9])

    def test_40_sons(self):
        # 18 + 36 + 63 + 81 + 48 = 246 by 40.
        self.assertEqual(last(*TOLD, (EACH,)), [40, 0, 123, 20])

    def test_one_age_alone(self):
        for x in range(13):
            self.assertEqual(last((START, 3), (SONS, x, 7), (EACH,)), [7, 0, x, 1])

    def test_no_sons(self):
        self.assertEqual(
            ask((START, 3), (EACH,), (SONS, 0, 1), (EACH,), (SONS, 0, 0), (EACH,)),
            [[0], [-33], [0], [1, 0, 0, 1], [1], [-33]],
        )

    def test_neither_gap_nor_rule_nor_first_men_matter(self):
        told = [(START, 10), (SONS, 3, 2), (SONS, 5, 1)]
        self.assertEqual(ask(*told, (RULE, 39, 40), (EACH,), (GAP, 1), (EACH,), (FIRST, 4, 4), (EACH,))[-5::2],
                         [[3, 0, 11, 3]] * 3)


class Balance(unittest.TestCase):
    def test_above_0_at_0_and_below(self):
        told = [(START, 5), (SONS, 3, 2), (SONS, 6, 1)]
        self.assertEqual(
            ask(*told, (BALANCE,), (GAP, 4), (BALANCE,), (GAP, 3), (BALANCE,), (GAP, 1), (BALANCE,))[-7::2],
            [[3, 0, 3], [3, 0, 0], [3, 1, 3], [3, 1, 9]],
        )

    def test_just_below_0(self):
        self.assertEqual(last((START, 5), (SONS, 6, 1), (BALANCE,)), [1, 1, 1])

    def test_no_sons(self):
        self.assertEqual(last((START, 5), (BALANCE,)), [0, 0, 0])

    def test_furthest(self):
        ages = [(SONS, 0, 9), (SONS, 1, 9), (SONS, 2, 9), (SONS, 3, 9), (SONS, 4, 4)]
        self.assertEqual(last((START, 10), *ages, (BALANCE,)), [40, 0, 330])
        ages = [(SONS, 12, 9), (SONS, 11, 9), (SONS, 10, 9), (SONS, 9, 9), (SONS, 8, 4)]
        self.assertEqual(last((START, 1), *ages, (BALANCE,)), [40, 1, 370])

    def test_lost_sons_count_too(self):
        told = [(START, 5), (SONS, 3, 2), (SONS, 6, 1), (FIRST, 2, 2)]
        self.assertEqual(last(*told, (RULE, 39, 40), (BALANCE,)), [3, 0, 3])


class Bounds(unittest.TestCase):
    def test_both_below_0(self):
        self.assertEqual(last((START, 3), (RULE, 4, 9), (BOUNDS,)), [5, 1, 5, 1, 1])
        self.assertEqual(last((START, 1), (RULE, 39, 40), (BOUNDS,)), [1, 1, 38, 1, 38])

    def test_one_below_0(self):
        self.assertEqual(last((START, 3), (RULE, 1, 6), (BOUNDS,)), [5, 1, 2, 0, 2])
        self.assertEqual(last((START, 10), (RULE, 0, 40), (BOUNDS,)), [40, 1, 29, 0, 10])

    def test_none_below_0(self):
        self.assertEqual(last((START, 8), (RULE, 2, 6), (BOUNDS,)), [4, 0, 3, 0, 6])

    def test_at_0(self):
        self.assertEqual(last((START, 5), (RULE, 0, 6), (BOUNDS,)), [6, 0, 0, 0, 5])
        self.assertEqual(last((START, 5), (RULE, 5, 7), (BOUNDS,)), [2, 1, 1, 0, 0])
        self.assertEqual(last((START, 5), (RULE, 5, 6), (BOUNDS,)), [1, 0, 0, 0, 0])

    def test_by_the_rule_and_the_gap_alone(self):
        plain = [(START, 5), (RULE, 20, 30)]
        told = plain + [(SONS, 3, 2), (FIRST, 1, 1), (FIRST, 20, 3)]
        self.assertEqual(last(*plain, (BOUNDS,)), [10, 1, 24, 1, 15])
        self.assertEqual(last(*told, (BOUNDS,)), [10, 1, 24, 1, 15])
        self.assertEqual(last(*told, (GAP, 10), (BOUNDS,)), [10, 1, 19, 1, 10])

    def test_no_rule(self):
        self.assertEqual(
            ask((START, 5), (BOUNDS,), (RULE, 0, 1), (BOUNDS,), (FREE,), (BOUNDS,)),
            [[0], [-33], [0], [1, 0, 5, 0, 5], [0], [-33]],
        )


class Refusals(unittest.TestCase):
    def test_they_answer_their_number_alone_and_leave_all(self):
        refused = {
            -22: [
                (START, 0), (START, 11), (SONS, 13, 0), (SONS, 0, 10), (FIRST, 21, 1), (FIRST, 0, 10), (GAP, 0),
                (GAP, 11), (RULE, 3, 3), (RULE, 0, 41), (TOTAL, 4), (COUNT, 4, 0), (COUNT, 0, 81), (YOUNGER, 4, 0),
                (YOUNGER, 0, 61), (BETWEEN, 4, 0, 1), (BETWEEN, 0, 1, 0), (BETWEEN, 0, 0, 81), (MEAN, 4),
                (SPREAD, 4), (MOST, 4), (LOST, 3),
            ],
            -28: [(SONS, 0, 1), (SONS, 12, 5)],
            -17: [(GAP, 5), (RULE, 1, 8)],
        }
        tail = everything() + [(SONS, x, 0) for x in range(13)] + [(FIRST, e, 0) for e in range(21)]
        tail += [(GAP, 1), (RULE, 1, 8), (FREE,)]
        plain = ask(*TOLD, *tail)[len(TOLD):]
        for number, calls in refused.items():
            for call in calls:
                with self.subTest(call=call):
                    self.assertEqual(ask(*TOLD, call, *tail)[len(TOLD):], [[number]] + plain)

    def test_no_rule_is_left_as_it_was(self):
        plain = TOLD[:-1]
        tail = everything() + [(FREE,)]
        self.assertEqual(ask(*plain, (FREE,), *tail)[len(plain):], [[-6]] + ask(*plain, *tail)[len(plain):])


if __name__ == "__main__":
    unittest.main()
