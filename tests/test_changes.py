"""Points 1 and 5: changes, gs_back, gs_again, gs_state."""

import random
import unittest

from tests.lines import (
    AGAIN, BACK, BALANCE, BETWEEN, BOUNDS, COUNT, EACH, FIRST, FREE, GAP, HUGE, LOST, MEAN, MOST, RULE, SONS, SPREAD,
    START, STATE, TOLD_SONS, TOTAL, YOUNGER, as_it_is, ask, everything, last,
)
from tests.second_way import drawn_change, drawn_line, drawn_question, second

ONE_OF_EACH = [(SONS, 3, 2), (RULE, 0, 6), (FREE,), (FIRST, 5, 3), (GAP, 7)]
QUESTIONS = [
    (TOTAL, 1), (COUNT, 1, 3), (YOUNGER, 1, 3), (BETWEEN, 1, 0, 9), (MEAN, 0), (SPREAD, 0), (MOST, 0), (LOST, 0),
    (BALANCE,), (EACH,), (TOLD_SONS,), (BOUNDS,), (STATE,),
]
# Refused behind START 4 and ONE_OF_EACH, with GAP 7 taken back or not.
REFUSED = [
    ((START, 0), -22), ((START, 11), -22), ((START, HUGE), -22), ((SONS, 13, 1), -22), ((SONS, 1, 10), -22),
    ((SONS, HUGE, HUGE), -22), ((FIRST, 21, 1), -22), ((FIRST, 1, 10), -22), ((FIRST, HUGE, HUGE), -22),
    ((GAP, 0), -22), ((GAP, 11), -22), ((GAP, HUGE), -22), ((RULE, 3, 3), -22), ((RULE, 0, 41), -22),
    ((RULE, HUGE, HUGE), -22), ((FREE,), -6), ((TOTAL, 4), -22), ((COUNT, 0, 81), -22), ((YOUNGER, 0, 61), -22),
    ((BETWEEN, 0, 2, 1), -22), ((MEAN, 4), -22), ((SPREAD, 4), -22), ((MOST, 4), -22), ((LOST, 3), -22),
    ((BOUNDS,), -33),
]


def many(changes):
    """So many changes, no two of them leaving the same behind."""
    return [(FIRST, k % 21, k // 21 + 1) for k in range(changes)]


class Back(unittest.TestCase):
    def test_each_change(self):
        told = [(START, 4)]
        for call in ONE_OF_EACH:
            self.assertEqual(
                as_it_is(told + [call, (BACK,)])[0], as_it_is(told)[0], call,
            )
            self.assertNotEqual(as_it_is(told + [call])[0], as_it_is(told)[0], call)
            told.append(call)

    def test_answers_how_many_can_still_be(self):
        self.assertEqual(ask((START, 4), *ONE_OF_EACH, *[(BACK,)] * 6)[-6:], [[4], [3], [2], [1], [0], [-2]])

    def test_all_is_told_as_it_was(self):
        told = [(START, 4), (SONS, 3, 2), (SONS, 6, 1), (FIRST, 0, 1), (FIRST, 5, 3), (RULE, 0, 6)]
        plain = ask(*told, *everything())[len(told):]
        for call in ((SONS, 3, 9), (SONS, 0, 1), (FIRST, 20, 1), (FIRST, 0, 0), (RULE, 0, 7), (FREE,), (GAP, 10)):
            self.assertNotEqual(ask(*told, call, *everything())[len(told) + 1:], plain)
            self.assertEqual(ask(*told, call, (BACK,), *everything())[len(told) + 2:], plain)

    def test_none(self):
        self.assertEqual(ask((START, 4), (BACK,), (BACK,), (STATE,))[1:], [[-2], [-2], [4, 0, 0, 0, 0, 0]])

    def test_none_left_leaves_all(self):
        told = [(START, 4), *ONE_OF_EACH, *[(BACK,)] * 5]
        self.assertEqual(as_it_is(told + [(BACK,)]), as_it_is(told))
        self.assertEqual(as_it_is(told)[1], [0, 5])

    def test_19_20_and_21_changes(self):
        for changes, left in ((1, 0), (19, 0), (20, 0), (21, 1), (22, 2), (50, 30)):
            told = [(START, 4), *many(changes)]
            kept = min(changes, 20)
            self.assertEqual(last(*told, (STATE,))[4:], [kept, 0])
            found = ask(*told, *[(BACK,)] * 25)[len(told):]
            self.assertEqual(found, [[k] for k in reversed(range(kept))] + [[-2]] * (25 - kept))
            self.assertEqual(as_it_is(told + [(BACK,)] * 25), (as_it_is([(START, 4), *many(left)])[0], [0, kept]))

    def test_one_by_one_over_20(self):
        changes = many(33)
        for back in range(21):
            told = [(START, 4), *changes, *[(BACK,)] * back]
            self.assertEqual(as_it_is(told), (as_it_is([(START, 4), *changes[:33 - back]])[0], [20 - back, back]))

    def test_a_change_that_leaves_all_as_it_was(self):
        told = [(START, 4), (SONS, 3, 2), (FIRST, 5, 3)]
        for call, was in (((SONS, 3, 2), 2), ((SONS, 4, 0), 0), ((FIRST, 5, 3), 3), ((FIRST, 6, 0), 0)):
            found = ask(*told, call, (STATE,), (BACK,), (STATE,), (TOLD_SONS,), (COUNT, 0, 5))[len(told):]
            self.assertEqual(found, [
                [was], [4, 0, 0, 3, 3, 0], [2], [4, 0, 0, 3, 2, 1], [13, 0, 0, 0, 2] + [0] * 9, [0, 3],
            ])

    def test_changes_that_leave_all_as_it_was_push_others_out(self):
        told = [(START, 4), (FIRST, 1, 5)] + [(SONS, 0, 0)] * 20
        self.assertEqual(ask(*told, *[(BACK,)] * 20, (BACK,), (COUNT, 0, 1))[-3:], [[0], [-2], [0, 5]])
        told = [(START, 4), (FIRST, 1, 5)] + [(SONS, 0, 0)] * 19
        self.assertEqual(ask(*told, *[(BACK,)] * 20, (BACK,), (COUNT, 0, 1))[-3:], [[0], [-2], [0, 0]])

    def test_refusals_and_questions_are_no_changes(self):
        told = [(START, 4), *ONE_OF_EACH]
        for call, number in REFUSED + [((GAP, 7), -17), ((AGAIN,), -2)]:
            self.assertEqual(ask(*told, call, (STATE,))[-2:], [[number], [7, 0, 0, 3, 5, 0]])
        for call in QUESTIONS:
            self.assertEqual(last(*told, call, (STATE,)), [7, 0, 0, 3, 5, 0])
        filled = [(START, 4)] + [(SONS, x, 9) for x in range(4)]
        self.assertEqual(ask(*filled, (SONS, 4, 5), (STATE,))[-2:], [[-28], [4, 0, 0, 0, 4, 0]])
        ruled = [(START, 4), (RULE, 1, 2)]
        self.assertEqual(ask(*ruled, (RULE, 1, 2), (STATE,))[-2:], [[-17], [4, 2, 2, 0, 1, 0]])

    def test_the_bound_of_40_sons_goes_by_what_is_left(self):
        filled = [(START, 4)] + [(SONS, x, 9) for x in range(4)] + [(SONS, 4, 4)]
        self.assertEqual(
            ask(*filled, (SONS, 5, 1), (BACK,), (SONS, 5, 5), (SONS, 5, 4), (BACK,), (SONS, 6, 5))[-6:],
            [[-28], [4], [-28], [0], [4], [-28]],
        )


class Again(unittest.TestCase):
    def test_each_change(self):
        told = [(START, 4)]
        for call in ONE_OF_EACH:
            told.append(call)
            self.assertEqual(as_it_is(told + [(BACK,), (AGAIN,)]), as_it_is(told), call)

    def test_answers_how_many_can_still_be(self):
        calls = [(START, 4), *ONE_OF_EACH, *[(BACK,)] * 5, *[(AGAIN,)] * 6]
        self.assertEqual(ask(*calls)[-6:], [[4], [3], [2], [1], [0], [-2]])

    def test_none(self):
        self.assertEqual(ask((START, 4), (AGAIN,), (GAP, 5), (AGAIN,), (STATE,))[1:],
                         [[-2], [4], [-2], [5, 0, 0, 0, 1, 0]])

    def test_all_taken_back_and_all_done_again(self):
        for changes in (1, 5, 19, 20, 21, 33):
            told = [(START, 4), *many(changes)]
            kept = min(changes, 20)
            whole = told + [(BACK,)] * kept + [(AGAIN,)] * kept
            self.assertEqual(as_it_is(whole), as_it_is(told))
            self.assertEqual(last(*whole, (AGAIN,)), [-2])
            self.assertEqual(as_it_is(whole + [(BACK,)] * kept), as_it_is(told + [(BACK,)] * kept))

    def test_in_the_order_in_which_they_were_made(self):
        changes = many(20)
        for again in range(21):
            told = [(START, 4), *changes, *[(BACK,)] * 20, *[(AGAIN,)] * again]
            self.assertEqual(as_it_is(told), (as_it_is([(START, 4), *changes[:again]])[0], [again, 20 - again]))

    def test_back_and_again_by_turns(self):
        told = [(START, 4), (GAP, 5), (GAP, 6), (GAP, 7)]
        calls = [(BACK,), (BACK,), (AGAIN,), (BACK,), (BACK,), (AGAIN,), (AGAIN,), (AGAIN,), (AGAIN,), (STATE,)]
        self.assertEqual(ask(*told, *calls)[len(told):], [
            [2], [1], [1], [1], [0], [2], [1], [0], [-2], [7, 0, 0, 0, 3, 0],
        ])

    def test_not_behind_another_change(self):
        # These are not refused, though two leave all as it was.
        for call in ((SONS, 3, 2), (SONS, 1, 1), (FIRST, 9, 0), (FIRST, 5, 1), (GAP, 2), (RULE, 0, 6), (RULE, 1, 7)):
            told = [(START, 4), *ONE_OF_EACH, (BACK,), (BACK,), (BACK,), (BACK,), call]
            self.assertEqual(last(*told, (STATE,))[4:], [2, 0])
            self.assertEqual(last(*told, (AGAIN,)), [-2])
            self.assertEqual(as_it_is(told), as_it_is([(START, 4), ONE_OF_EACH[0], call]))
            self.assertEqual(as_it_is(told + [(BACK,), (BACK,)]), (as_it_is([(START, 4)])[0], [0, 2]))
        told = [(START, 4), (RULE, 0, 6), (GAP, 9), (BACK,), (FREE,)]
        self.assertEqual(ask(*told, (STATE,), (AGAIN,))[-2:], [[4, 0, 0, 0, 2, 0], [-2]])

    def test_the_same_change_made_anew_clears_the_others_too(self):
        told = [(START, 4), (GAP, 5), (GAP, 6), (BACK,), (BACK,), (GAP, 5)]
        self.assertEqual(ask(*told, (AGAIN,), (STATE,))[-2:], [[-2], [5, 0, 0, 0, 1, 0]])

    def test_behind_refused_calls_and_questions(self):
        told = [(START, 4), *ONE_OF_EACH, (BACK,)]
        done = as_it_is(told + [(AGAIN,)])
        for call, number in REFUSED + [((GAP, 4), -17)]:
            self.assertEqual(last(*told, call), [number])
            self.assertEqual(as_it_is(told + [call]), as_it_is(told))
            self.assertEqual(as_it_is(told + [call, (AGAIN,)]), done)
        for call in QUESTIONS:
            self.assertEqual(as_it_is(told + [call, (AGAIN,)]), done)

    def test_behind_one_that_is_refused_as_too_many(self):
        told = [(START, 4)] + [(SONS, x, 9) for x in range(4)] + [(GAP, 9), (BACK,)]
        self.assertEqual(ask(*told, (SONS, 4, 5), (AGAIN,), (STATE,))[-3:], [[-28], [0], [9, 0, 0, 0, 5, 0]])

    def test_behind_a_rule_that_is_there(self):
        told = [(START, 4), (RULE, 1, 2), (GAP, 9), (BACK,)]
        self.assertEqual(ask(*told, (RULE, 1, 2), (AGAIN,), (STATE,))[-3:], [[-17], [0], [9, 2, 2, 0, 2, 0]])

    def test_behind_a_back_that_is_refused(self):
        told = [(START, 4), (GAP, 9), (BACK,)]
        self.assertEqual(ask(*told, (BACK,), (AGAIN,), (STATE,))[-3:], [[-2], [0], [9, 0, 0, 0, 1, 0]])

    def test_20_taken_back_and_changes_made_anew(self):
        told = [(START, 4), *many(25), *[(BACK,)] * 12, *[(FIRST, k, 9) for k in range(12)]]
        self.assertEqual(last(*told, (STATE,))[4:], [20, 0])
        self.assertEqual(last(*told, (SONS, 1, 1), (STATE,))[4:], [20, 0])
        told = [(START, 4), *many(25), *[(BACK,)] * 12, (SONS, 1, 1)]
        self.assertEqual(last(*told, (STATE,))[4:], [9, 0])


class Start(unittest.TestCase):
    def test_behind_changes_there_are_none(self):
        for g in (4, 7, 10):
            told = [(START, 4), *ONE_OF_EACH, (START, g)]
            self.assertEqual(ask(*told, (STATE,), (BACK,), (AGAIN,))[-3:], [[g, 0, 0, 0, 0, 0], [-2], [-2]])

    def test_behind_a_back_there_are_none(self):
        told = [(START, 4), *ONE_OF_EACH, (BACK,), (BACK,), (START, 4)]
        self.assertEqual(ask(*told, (STATE,), (AGAIN,), (BACK,))[-3:], [[4, 0, 0, 0, 0, 0], [-2], [-2]])

    def test_it_is_no_change_itself(self):
        self.assertEqual(last((START, 4), (START, 5), (BACK,)), [-2])
        self.assertEqual(ask((START, 4), (START, 5), (GAP, 6), (BACK,), (BACK,), (STATE,))[3:],
                         [[0], [-2], [5, 0, 0, 0, 0, 1]])

    def test_refused_it_leaves_the_changes(self):
        for back in range(6):
            told = [(START, 4), *ONE_OF_EACH, *[(BACK,)] * back]
            for g in (0, 11, HUGE):
                self.assertEqual(as_it_is(told + [(START, g)]), as_it_is(told))
                self.assertEqual(as_it_is(told + [(START, g), (BACK,)]), as_it_is(told + [(BACK,)]))
                self.assertEqual(as_it_is(told + [(START, g), (AGAIN,)]), as_it_is(told + [(AGAIN,)]))


class State(unittest.TestCase):
    def test_without_a_rule(self):
        self.assertEqual(last((START, 10), (STATE,)), [10, 0, 0, 0, 0, 0])
        self.assertEqual(last((START, 10), (RULE, 3, 9), (FREE,), (STATE,)), [10, 0, 0, 0, 2, 0])

    def test_with_a_rule(self):
        self.assertEqual(last((START, 1), (RULE, 3, 9), (STATE,)), [1, 4, 9, 0, 1, 0])
        self.assertEqual(last((START, 1), (RULE, 39, 40), (STATE,)), [1, 40, 40, 0, 1, 0])

    def test_with_a_rule_from_grade_0_on(self):
        self.assertEqual(last((START, 1), (RULE, 0, 1), (STATE,)), [1, 1, 1, 0, 1, 0])
        self.assertEqual(last((START, 1), (RULE, 0, 40), (STATE,)), [1, 1, 40, 0, 1, 0])

    def test_first_men(self):
        told = [(START, 3), (FIRST, 0, 2), (FIRST, 20, 9), (FIRST, 20, 4), (SONS, 3, 3)]
        self.assertEqual(last(*told, (STATE,)), [3, 0, 0, 6, 4, 0])
        full = [(START, 3)] + [(FIRST, e, 9) for e in range(21)]
        self.assertEqual(last(*full, (STATE,)), [3, 0, 0, 189, 20, 0])

    def test_all_of_it(self):
        told = [(START, 3), (GAP, 8), (RULE, 2, 7), (FIRST, 4, 5), (SONS, 1, 1), (SONS, 2, 1), (BACK,), (BACK,)]
        self.assertEqual(last(*told, (STATE,)), [8, 3, 7, 5, 3, 2])


class TakenBack(unittest.TestCase):
    def test_all_is_as_it_was_in_many_lines(self):
        lot = random.Random(5)
        for turn in range(60):
            told = [(START, lot.randint(1, 10))]
            stages = [as_it_is(told)[0]]
            for step in range(lot.randint(1, 50)):
                told.append(lot.choice((drawn_change, drawn_change, drawn_question))(lot))
                if told[-1][0] in (SONS, RULE, FREE, FIRST, GAP) and last(*told)[0] >= 0:
                    stages.append(as_it_is(told)[0])
            kept = min(20, len(stages) - 1)
            for back in range(kept + 1):
                turned = told + [(BACK,)] * back
                self.assertEqual(as_it_is(turned), (stages[len(stages) - 1 - back], [kept - back, back]))
                self.assertEqual(as_it_is(turned + [(AGAIN,)] * back), (stages[-1], [kept, 0]))
            self.assertEqual(last(*told, *[(BACK,)] * (kept + 1)), [-2])

    def test_lines_of_changes_alone(self):
        lot = random.Random(6)
        for turn in range(60):
            calls = [call for call in drawn_line(lot, 300) if call[0] not in (TOTAL, LOST, MEAN, MOST, SPREAD)]
            calls = [call for call in calls if call[0] not in (COUNT, YOUNGER, BETWEEN) or call[1] == 0]
            self.assertEqual(ask(*calls), second(calls))


if __name__ == "__main__":
    unittest.main()
