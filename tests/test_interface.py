"""The interface: how calls and answers are written, and what is not done besides."""

import contextlib
import io
import unittest

from decidetable.rules import answers
from tests.calls import (HIGHEST, begin, clash, decide, differ, drop, gap, joined, keep, move, needless, rule,
                         taken_apart)


class UnchangeableList(list):
    """A list that fails at once when it is changed, be it for a while only."""

    def refuse(self, *given, **named):
        raise AssertionError("what was handed in is changed")

    __setitem__ = __delitem__ = __iadd__ = __imul__ = refuse
    append = clear = extend = insert = pop = remove = reverse = sort = refuse


def long_calls():
    """As many calls as there may be, all ten mixed, with every refusal among them."""
    calls = [begin(), begin(9, HIGHEST), keep(), decide(0, 0), clash(), needless(0), move(0, 0)]
    calls.extend([rule(1, (0, 9), (0, HIGHEST)), gap(), move(0, 1), drop(1), drop(0)])
    while len(calls) < 300:
        k = len(calls)
        calls.append(rule(k % 260, (k % 7, k % 11), (0, HIGHEST - k)))
        calls.append(decide(k % 11, k))
        calls.append(needless(k % 8))
        calls.append(rule(k % 3, (k % 4, 4 + k % 6), (k, HIGHEST)))
        calls.append(move(k % 5, k % 7))
        calls.extend([gap(), clash(), differ()])
        if k % 3 == 0:
            calls.append(keep())
        if k % 5 == 0:
            calls.append(drop(k % 9))
    return calls[:300]


def long_list():
    return joined(long_calls())


class AnswersTest(unittest.TestCase):
    def test_one_call(self):
        self.assertEqual(answers([0, 1, 9]), [1, 0])
        self.assertEqual(answers([0, 0]), [1, -22])

    def test_calls_and_answers_number_by_number(self):
        calls = [
            0, 2, 9, 5,
            1, 77, 4, 2, 4, 0, 5,
            1, 78, 4, 0, 9, 3, 3,
            4, 2, 3, 3,
            4, 2, 0, 3,
            4, 2, 0, 0,
            4, 1, 0,
            4, 0,
            3, 1, 0,
            4, 2, 3, 3,
            3, 2, 0,
            3, 0, 2,
            2, 2,
            2, 0,
            1, 0, 0,
            1, 256, 4, 0, 9, 0, 5,
        ]
        told = [
            1, 0,
            1, 0,
            1, 1,
            3, 1, 77, 0,
            3, 1, 78, 1,
            1, 0,
            1, -22,
            1, -22,
            1, 0,
            3, 1, 78, 0,
            1, -2,
            1, -22,
            1, -2,
            1, 1,
            1, -22,
            1, -22,
        ]
        self.assertEqual(answers(calls), told)

    def test_calls_five_to_nine_number_by_number(self):
        calls = [
            0, 2, 9, 5,
            5,
            9,
            1, 77, 4, 2, 4, 0, 5,
            5,
            9,
            8,
            1, 78, 4, 0, 9, 3, 3,
            6,
            7, 0,
            7, 1,
            7, 2,
            9,
            3, 1, 0,
            9,
            8,
            9,
            6,
            2, 0,
            2, 0,
            9,
            6,
            8,
        ]
        told = [
            1, 0,
            3, 1, 0, 0,
            1, 0,
            1, 0,
            3, 1, 0, 0,
            5, 1, 78, 0, 2, 0,
            1, 1,
            1, 1,
            5, 1, 0, 1, 2, 3,
            3, 0, 2, 0,
            3, 0, 0, 3,
            1, -2,
            5, 1, 79, 0, 0, 3,
            1, 0,
            5, 1, 79, 0, 0, 3,
            1, 2,
            1, 0,
            5, 1, 0, 1, 2, 3,
            1, 1,
            1, 0,
            5, 1, 0, 79, 0, 3,
            1, 0,
            1, 0,
        ]
        self.assertEqual(answers(calls), told)

    def test_case_of_four_numbers_stands_without_a_count(self):
        setup = [0, 4, 9, 9, 9, 9, 1, 6, 8, 1, 2, 3, 4, 5, 6, 7, 8]
        self.assertEqual(answers(setup + [5]), [1, 0, 1, 0, 5, 1, 0, 0, 0, 0])
        self.assertEqual(answers(setup + [7, 0]), [1, 0, 1, 0, 5, 0, 1, 3, 5, 7])
        self.assertEqual(answers(setup + [9]), [1, 0, 1, 0, 7, 1, 7, 0, 1, 3, 5, 7])
        self.assertEqual(answers(setup + [1, 7] + setup[8:] + [6]), [1, 0, 1, 0, 1, 1, 7, 1, 0, 1, 1, 3, 5, 7])

    def test_longest_rows(self):
        calls = [0, 10] + [HIGHEST] * 10 + [0, 1, 9, 1, 5, 20] + [0, 9] * 10 + [4, 10] + [0] * 10 + [4, 1, 3]
        self.assertEqual(answers(calls), [1, -22, 1, 0, 1, -22, 1, -22, 1, 0])

    def test_rows_that_look_like_calls(self):
        calls = [0, 4, 4, 3, 2, 1, 1, 4, 8, 0, 1, 0, 1, 0, 2, 0, 1, 4, 4, 1, 1, 2, 1]
        self.assertEqual(answers(calls), [1, 0, 1, 0, 3, 1, 4, 0])
        calls = [0, 4, 9, 8, 7, 6, 1, 9, 8, 5, 6, 5, 6, 5, 6, 5, 6, 4, 4, 5, 6, 5, 6, 7, 7, 7, 0]
        self.assertEqual(answers(calls), [1, 0, 1, 0, 3, 1, 9, 0, 1, -2, 5, 0, 5, 5, 5, 5])

    def test_most_calls_there_may_be(self):
        told = answers(joined([begin(9)] + [decide(3)] * 299))
        self.assertEqual(told, [1, 0] * 300)

    def test_three_hundred_calls_of_all_ten(self):
        calls = long_calls()
        parts = taken_apart(answers(joined(calls)))
        self.assertEqual((len(calls), len(parts)), (300, 300))
        told = {}
        for call, part in zip(calls, parts):
            told.setdefault(call[0], {})[(min(part[0], 1), len(part))] = True
        self.assertEqual({number: sorted(told[number]) for number in told}, {
            0: [(-22, 1), (0, 1)],
            1: [(-28, 1), (-22, 1), (0, 1), (1, 1)],
            2: [(-2, 1), (0, 1), (1, 1)],
            3: [(-22, 1), (-2, 1), (0, 1)],
            4: [(-22, 1), (0, 1), (1, 3)],
            5: [(0, 1), (1, 3)],
            6: [(0, 1), (1, 5)],
            7: [(-2, 1), (0, 3), (1, 1)],
            8: [(0, 1), (1, 1)],
            9: [(0, 1), (1, 5)],
        })

    def test_answers_are_a_list_of_whole_numbers(self):
        told = answers(long_list())
        self.assertIs(type(told), list)
        self.assertEqual({type(number) for number in told}, {int})

    def test_what_is_handed_in_is_the_same_afterwards(self):
        calls = long_list()
        before = list(calls)
        answers(calls)
        self.assertEqual(calls, before)

    def test_what_is_handed_in_is_not_changed_for_a_while_either(self):
        self.assertEqual(answers(UnchangeableList(long_list())), answers(long_list()))

    def test_the_same_list_twice(self):
        calls = long_list()
        first = answers(calls)
        self.assertEqual(answers(calls), first)

    def test_nothing_is_kept_from_one_time_to_the_next(self):
        calls = joined([begin(), begin(9), decide(3), drop(0), rule(5, (0, 9)), decide(3)])
        told = [1, -22, 1, 0, 1, 0, 1, -2, 1, 0, 3, 1, 5, 0]
        self.assertEqual(answers(calls), told)
        answers(long_list())
        self.assertEqual(answers(calls), told)

    def test_changing_what_was_answered_changes_no_later_answer(self):
        calls = joined([begin(9), rule(5, (0, 9)), decide(3)])
        answers(calls).clear()
        self.assertEqual(answers(calls), [1, 0, 1, 0, 3, 1, 5, 0])

    def test_nothing_is_printed(self):
        out, err = io.StringIO(), io.StringIO()
        with contextlib.redirect_stdout(out), contextlib.redirect_stderr(err):
            answers(long_list())
        self.assertEqual((out.getvalue(), err.getvalue()), ("", ""))


if __name__ == "__main__":
    unittest.main()
