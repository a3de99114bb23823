"""The interface: what is handed in to answers, and what it gives back."""

import unittest

from outofstep.generations import answers
from tests.lines import COUNT, FIRST, FREE, GAP, HUGE, MEAN, RULE, SONS, START, TOTAL, ask, flat, last


class Interface(unittest.TestCase):
    def test_the_count_ahead_of_each_answer(self):
        calls = [0, 11, 0, 4, 1, 3, 2, 4, 5, 3, 2, 1, 9, 3, 5, 6, 6, 0, 7, 1, 8, 8, 1, 8, 9, 0, 5, 6, 10, 1, 10, 9]
        self.assertEqual(answers(calls), [
            1, -22, 1, 0, 1, 0, 1, 0, 1, 0, 1, 0, 1, 4, 2, 0, 3, 2, 0, 6, 2, 0, 0, 3, 0, 3, 3, 4, 0, 0, 8, 1, 1, -22,
        ])

    def test_one_call(self):
        self.assertEqual(answers([0, 1]), [1, 0])
        self.assertEqual(answers([0, HUGE]), [1, -22])

    def test_kinds(self):
        found = answers([0, 4, 1, 3, 2, 4, 5, 3, 6, 1, 10, 1, 9, 1, 0, 80, 2, 0, 0, 3])
        self.assertIs(type(found), list)
        for number in found:
            self.assertIs(type(number), int)

    def test_the_list_stays_as_it_was(self):
        calls = flat([(START, 4), (SONS, 3, 2), (FIRST, 5, 3), (RULE, 0, 0), (TOTAL, 3), (MEAN, 1), (START, 0)])
        before = list(calls)
        found = answers(calls)
        self.assertEqual(calls, before)
        found.clear()
        self.assertEqual(calls, before)

    def test_the_list_is_not_changed_for_a_while_either(self):
        class Still(list):
            def refuse(self, *given, **named):
                raise AssertionError("the list was changed")

            append = extend = insert = pop = remove = clear = sort = reverse = refuse
            __setitem__ = __delitem__ = __iadd__ = __imul__ = refuse

        calls = flat([(START, 4), (SONS, 3, 2), (FIRST, 5, 3), (TOTAL, 3), (MEAN, 1)])
        self.assertEqual(answers(Still(calls)), answers(calls))

    def test_nothing_is_kept(self):
        calls = flat([(START, 4), (SONS, 3, 9), (FIRST, 5, 3), (RULE, 0, 4), (GAP, 2), (TOTAL, 2), (START, 11)])
        first = answers(calls)
        kept = list(first)
        self.assertEqual(answers(calls), kept)
        self.assertEqual(ask((START, 4), (FIRST, 5, 0), (SONS, 3, 0), (FREE,), (GAP, 4)), [[0], [0], [0], [-6], [-17]])
        self.assertEqual(first, kept)
        first.append(7)
        self.assertEqual(answers(calls), kept)

    def test_1000_calls(self):
        told = [(START, 5)] + [(SONS, x, 3) for x in range(13)] + [(FIRST, e, 9) for e in range(21)]
        calls = told + [(COUNT, 3, k % 81) for k in range(1000 - len(told))]
        found = ask(*calls)
        self.assertEqual(len(found), 1000)
        self.assertEqual(found[len(told):len(told) + 81], found[len(told) + 81:len(told) + 162])
        self.assertGreater(sum(answer[1] for answer in found[len(told):len(told) + 81]), 0)

    def test_1000_changes(self):
        calls = [(START, 1)] + [(GAP, k % 10 + 1) for k in range(1, 1000)]
        self.assertEqual(ask(*calls), [[0]] + [[k % 10 + 1] for k in range(999)])

    def test_1000_starts(self):
        self.assertEqual(ask(*[(START, 0)] * 999, (START, 1)), [[-22]] * 999 + [[0]])
        self.assertEqual(last(*[(START, 1)] * 1000), [0])


if __name__ == "__main__":
    unittest.main()
