"""The interface: what is handed in to answers, and what it gives back."""

import random
import unittest

from outofstep.generations import answers
from tests.lines import (
    AGAIN, BACK, BALANCE, BETWEEN, BOUNDS, COUNT, EACH, FIRST, FREE, GAP, HUGE, LOST, MEAN, MOST, RULE, SONS, SPREAD,
    START, STATE, TOLD_SONS, TOTAL, YOUNGER, ask, flat, last,
)
from tests.second_way import drawn_line, second

# Each call by its number, none of them refused in this order; and how many numbers it answers.
NOT_REFUSED = [
    ((0, 4), 1), ((1, 3, 2), 1), ((2, 0, 5), 1), ((3,), 1), ((4, 5, 3), 1), ((5, 6), 1), ((6, 1), 2), ((7, 1, 8), 2),
    ((8, 1, 8), 2), ((9, 0, 5, 6), 3), ((10, 1), 4), ((11, 1), 5), ((12, 1), 4), ((13, 0), 3), ((14,), 3), ((15,), 4),
    ((16,), 14), ((2, 0, 5), 1), ((17,), 5), ((18,), 1), ((19,), 1), ((20,), 6),
]


class Interface(unittest.TestCase):
    def test_the_count_ahead_of_each_answer(self):
        calls = [0, 11, 0, 4, 1, 3, 2, 4, 5, 3, 2, 1, 9, 3, 5, 6, 6, 0, 7, 1, 8, 8, 1, 8, 9, 0, 5, 6, 10, 1, 10, 9]
        self.assertEqual(answers(calls), [
            1, -22, 1, 0, 1, 0, 1, 0, 1, 0, 1, 0, 1, 4, 2, 0, 3, 2, 0, 6, 2, 0, 0, 3, 0, 3, 3, 4, 0, 0, 8, 1, 1, -22,
        ])

    def test_how_many_numbers_each_call_answers(self):
        found = ask(*[call for call, size in NOT_REFUSED])
        self.assertEqual({call[0] for call, size in NOT_REFUSED}, set(range(21)))
        for answer, (call, size) in zip(found, NOT_REFUSED):
            self.assertEqual(len(answer), size, call)
            self.assertGreaterEqual(min(answer), 0, call)

    def test_the_numbers_of_the_later_calls(self):
        told = [0, 4, 1, 3, 2, 1, 6, 1, 4, 0, 1, 4, 5, 3, 2, 0, 6]
        self.assertEqual(answers(told + [11, 1, 12, 1, 13, 0, 14, 15, 16, 17, 18, 19, 20])[12:], [
            5, 2, 0, 1, 0, 3, 4, 0, 0, 3, 3, 3, 0, 7, 5, 3, 3, 0, 0, 4, 3, 0, 4, 1,
            14, 13, 0, 0, 0, 2, 0, 0, 1, 0, 0, 0, 0, 0, 0, 5, 6, 1, 1, 0, 4, 1, 4, 1, 0, 6, 4, 1, 6, 4, 5, 0,
        ])

    def test_a_refusal_is_its_number_alone(self):
        told = [0, 4]
        for call, number in (
            ([0, 0], -22), ([1, 13, 0], -22), ([2, 0, 0], -22), ([3], -6), ([4, 21, 0], -22), ([5, 4], -17),
            ([6, 4], -22), ([7, 4, 0], -22), ([8, 4, 0], -22), ([9, 4, 0, 0], -22), ([10, 0], -33), ([11, 0], -33),
            ([12, 0], -33), ([13, 3], -22), ([15], -33), ([17], -33), ([18], -2), ([19], -2),
        ):
            self.assertEqual(answers(told + call), [1, 0, 1, number])

    def test_greatest_numbers(self):
        calls = [(SONS, HUGE, 0), (SONS, 0, HUGE), (RULE, HUGE, HUGE), (RULE, HUGE - 1, HUGE), (FIRST, HUGE, 0),
                 (FIRST, 0, HUGE), (GAP, HUGE), (START, HUGE), (TOTAL, HUGE), (COUNT, HUGE, HUGE), (YOUNGER, 0, HUGE),
                 (BETWEEN, 0, 0, HUGE), (MEAN, HUGE), (SPREAD, HUGE), (MOST, HUGE), (LOST, HUGE)]
        told = [(START, 4), (SONS, 3, 2), (FIRST, 5, 3), (GAP, 5), (BACK,)]
        for call in calls:
            self.assertEqual(ask(*told, call, (STATE,))[len(told):], [[-22], [4, 0, 0, 3, 2, 1]])

    def test_one_call(self):
        self.assertEqual(answers([0, 1]), [1, 0])
        self.assertEqual(answers([0, HUGE]), [1, -22])

    def test_kinds(self):
        found = answers(flat([call for call, size in NOT_REFUSED] + [(RULE, 0, 0), (START, 0)]))
        self.assertIs(type(found), list)
        for number in found:
            self.assertIs(type(number), int)

    def test_the_list_stays_as_it_was(self):
        calls = flat([call for call, size in NOT_REFUSED] + [(RULE, 0, 0), (TOTAL, 3), (START, 0)])
        before = list(calls)
        found = answers(calls)
        self.assertEqual(calls, before)
        found.clear()
        self.assertEqual(calls, before)

    def test_the_list_is_not_changed_for_a_while_either(self):
        class Still(list):
            def refuse(self, *given, **named):
                raise AssertionError("the list was changed")

            append = extend = insert = pop = remove = clear = sort = reverse = refuse
            __setitem__ = __delitem__ = __iadd__ = __imul__ = refuse

        calls = flat([call for call, size in NOT_REFUSED])
        self.assertEqual(answers(Still(calls)), answers(calls))

    def test_nothing_is_kept(self):
        calls = flat([(START, 4), (SONS, 3, 9), (FIRST, 5, 3), (RULE, 0, 4), (GAP, 2), (TOTAL, 2), (START, 11)])
        first = answers(calls)
        kept = list(first)
        self.assertEqual(answers(calls), kept)
        self.assertEqual(ask((START, 4), (FIRST, 5, 0), (SONS, 3, 0), (FREE,), (GAP, 4)), [[0], [0], [0], [-6], [-17]])
        self.assertEqual(ask((START, 4), (STATE,), (BACK,), (AGAIN,), (EACH,), (BOUNDS,), (BALANCE,), (TOLD_SONS,)), [
            [0], [4, 0, 0, 0, 0, 0], [-2], [-2], [-33], [-33], [0, 0, 0], [13] + [0] * 13,
        ])
        self.assertEqual(first, kept)
        first.append(7)
        self.assertEqual(answers(calls), kept)

    def test_1000_calls(self):
        told = [(START, 5)] + [(SONS, x, 3) for x in range(13)] + [(FIRST, e, 9) for e in range(21)]
        calls = told + [(COUNT, 3, k % 81) for k in range(1000 - len(told))]
        found = ask(*calls)
        self.assertEqual(len(found), 1000)
        self.assertEqual(found[len(told):len(told) + 81], found[len(told) + 81:len(told) + 162])
        self.assertGreater(sum(answer[1] for answer in found[len(told):len(told) + 81]), 0)

    def test_1000_changes(self):
        calls = [(START, 1)] + [(GAP, k % 10 + 1) for k in range(1, 1000)]
        self.assertEqual(ask(*calls), [[0]] + [[k % 10 + 1] for k in range(999)])

    def test_1000_calls_of_all_kinds(self):
        lot = random.Random(1000)
        for turn in range(12):
            calls = drawn_line(lot, 1000, fathers=5)
            self.assertEqual(len(calls), 1000)
            self.assertEqual({call[0] for call in calls}, set(range(21)))
            self.assertEqual(ask(*calls), second(calls))

    def test_1000_calls_that_take_back_and_do_again(self):
        changes = [(FIRST, k % 21, k // 21 % 10) for k in range(499)]
        found = ask((START, 1), *changes, *[(BACK,), (AGAIN,)] * 250)
        self.assertEqual(found[500:], [[19], [0]] * 250)

    def test_1000_calls_with_the_most_men(self):
        told = [(START, 5)] + [(SONS, x, 3) for x in range(12)] + [(SONS, 12, 4)] + [(FIRST, e, 9) for e in range(21)]
        found = ask(*told, *[(MOST, 3), (SPREAD, 3), (LOST, 2), (TOLD_SONS,)] * 241, (STATE,))
        self.assertEqual(len(found), 1000)
        self.assertEqual(found[35:39] * 241, found[35:-1])
        # From 0 and three times 5 less 12 to 20 and three times 5.
        self.assertEqual(found[36:39], [[56, 1, 21, 0, 35], [0, 0, 12096000], [13] + [3] * 12 + [4]])
        self.assertEqual(found[-1], [5, 0, 0, 189, 20, 0])

    def test_1000_starts(self):
        self.assertEqual(ask(*[(START, 0)] * 999, (START, 1)), [[-22]] * 999 + [[0]])
        self.assertEqual(last(*[(START, 1)] * 1000), [0])


if __name__ == "__main__":
    unittest.main()
