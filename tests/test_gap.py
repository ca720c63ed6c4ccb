"""Point 4: gap."""

import random
import unittest

from tests.calls import HIGHEST, ask, begin, decide, drop, gap, last, move, rule
from tests.walk import some_rules, walked_gap, written


def beside(inputs, at, bound, others=(0, 9)):
    """The bounds for as many inputs: bound at the one input, others at all others."""
    bounds = [others] * inputs
    bounds[at] = bound
    return bounds


class GapTest(unittest.TestCase):
    def test_no_rules(self):
        for tops in ((9,), (0,), (HIGHEST,), (3, 0), (0, 0, 0), (HIGHEST, HIGHEST, HIGHEST, HIGHEST)):
            with self.subTest(tops=tops):
                self.assertEqual(last(begin(*tops), gap()), [1] + [0] * len(tops))

    def test_one_rule_over_all_cases(self):
        for tops in ((9,), (0,), (HIGHEST,), (3, 0), (0, 0, 0), (HIGHEST, HIGHEST, HIGHEST, HIGHEST)):
            for outcome in (0, 255):
                with self.subTest(tops=tops, outcome=outcome):
                    self.assertEqual(last(begin(*tops), rule(outcome, *[(0, top) for top in tops]), gap()), [0])

    def test_rules_that_meet_just_at_a_bound(self):
        for inputs in range(1, 5):
            for at in range(inputs):
                for low in (4, 5):
                    lower = rule(1, *beside(inputs, at, (0, 4)))
                    upper = rule(2, *beside(inputs, at, (low, 9)))
                    with self.subTest(inputs=inputs, at=at, low=low):
                        self.assertEqual(last(begin(*[9] * inputs), lower, upper, gap()), [0])
                        self.assertEqual(last(begin(*[9] * inputs), upper, lower, gap()), [0])

    def test_rules_that_leave_one_number_out(self):
        for inputs in range(1, 5):
            for at in range(inputs):
                lower = rule(1, *beside(inputs, at, (0, 4)))
                upper = rule(1, *beside(inputs, at, (6, 9)))
                case = [0] * inputs
                case[at] = 5
                with self.subTest(inputs=inputs, at=at):
                    self.assertEqual(last(begin(*[9] * inputs), lower, upper, gap()), [1] + case)
                    self.assertEqual(last(begin(*[9] * inputs), upper, lower, gap()), [1] + case)

    def test_number_left_out_at_the_bottom(self):
        self.assertEqual(last(begin(9), rule(1, (1, 9)), gap()), [1, 0])
        self.assertEqual(last(begin(9, 9), rule(1, (0, 9), (1, 9)), gap()), [1, 0, 0])

    def test_gap_at_the_highest_top_alone(self):
        for inputs in range(1, 5):
            for at in range(inputs):
                bounds = beside(inputs, at, (0, HIGHEST - 1), (0, HIGHEST))
                case = [0] * inputs
                case[at] = HIGHEST
                with self.subTest(inputs=inputs, at=at):
                    self.assertEqual(last(begin(*[HIGHEST] * inputs), rule(1, *bounds), gap()), [1] + case)

    def test_gap_in_the_last_case_of_all_alone(self):
        tops = [HIGHEST] * 4
        rules = [rule(at, *beside(4, at, (0, HIGHEST - 1), (0, HIGHEST))) for at in range(4)]
        self.assertEqual(last(begin(*tops), *rules, gap()), [1] + tops)
        self.assertEqual(last(begin(*tops), *rules, rule(9, *[(top, top) for top in tops]), gap()), [0])

    def test_gap_with_a_top_of_zero(self):
        self.assertEqual(ask(begin(0), gap(), rule(1, (0, 0)), gap(), drop(0), gap()),
                         [[0], [1, 0], [0], [0], [0], [1, 0]])
        self.assertEqual(last(begin(0, 5), rule(1, (0, 0), (0, 4)), gap()), [1, 0, 5])
        self.assertEqual(last(begin(5, 0), rule(1, (0, 4), (0, 0)), gap()), [1, 5, 0])
        self.assertEqual(last(begin(0, HIGHEST, 0), rule(1, (0, 0), (0, HIGHEST - 1), (0, 0)), gap()),
                         [1, 0, HIGHEST, 0])

    def test_the_earlier_of_two_gaps_has_the_lesser_first_number(self):
        rules = [rule(1, (0, 2), (0, 8)), rule(1, (0, 1), (9, 9)), rule(1, (3, 9), (1, 9))]
        self.assertEqual(last(begin(9, 9), *rules, gap()), [1, 2, 9])

    def test_hole_that_four_rules_leave_between_them(self):
        ring = [rule(1, (0, 5), (0, 3)), rule(2, (6, 9), (0, 5)), rule(3, (4, 9), (6, 9)), rule(4, (0, 3), (4, 9))]
        self.assertEqual(last(begin(9, 9), *ring, gap()), [1, 4, 4])
        self.assertEqual(last(begin(9, 9), *ring, rule(5, (4, 5), (4, 4)), gap()), [1, 4, 5])
        self.assertEqual(last(begin(9, 9), *ring, rule(5, (4, 5), (4, 5)), gap()), [0])

    def test_gap_that_rules_share_out_in_four_inputs(self):
        rules = [rule(at, *beside(4, at, (0, 4))) for at in range(4)]
        self.assertEqual(last(begin(9, 9, 9, 9), *rules, gap()), [1, 5, 5, 5, 5])
        halves = [rule(7, (5, 9), (5, 9), (5, 9), (5, 7)), rule(7, (5, 9), (5, 6), (5, 9), (8, 9))]
        self.assertEqual(last(begin(9, 9, 9, 9), *rules, *halves, gap()), [1, 5, 7, 5, 8])

    def test_after_rule_drop_and_move(self):
        told = ask(begin(9), rule(1, (0, 4)), gap(), rule(2, (3, 9)), gap(), move(1, 0), gap(), drop(1), gap(), drop(0),
                   gap())
        self.assertEqual(told[2::2], [[1, 5], [0], [0], [1, 0], [1, 0]])

    def test_gap_changes_nothing(self):
        told = ask(begin(9), rule(1, (0, 4)), gap(), gap(), decide(4), decide(5), rule(2, (5, 5)), gap())
        self.assertEqual(told[2:], [[1, 5], [1, 5], [1, 1, 0], [0], [1], [1, 6]])
        ten = [rule(1, (0, 4))] * 10
        self.assertEqual(ask(begin(9), *ten, gap(), drop(0), rule(1, (0, 9)), gap())[11:], [[1, 5], [9], [9], [0]])

    def test_after_another_begin(self):
        self.assertEqual(ask(begin(9), rule(1, (0, 9)), begin(3, 3), gap(), begin(), gap())[3:],
                         [[1, 0, 0], [-22], [1, 0, 0]])

    def test_two_to_four_inputs_against_a_walk(self):
        source = random.Random(4)
        found = {}
        for tops in ((6, 6), (4, 5), (3, 3, 3), (2, 4, 0), (2, 2, 2, 2), (1, 3, 1, 2)):
            for count in list(range(11)) * 6:
                rules = some_rules(source, tops, count, 3)
                expected = walked_gap(tops, rules)
                found[expected[0]] = True
                with self.subTest(tops=tops, rules=rules):
                    self.assertEqual(last(begin(*tops), *written(rules), gap()), expected)
        self.assertEqual(sorted(found), [0, 1])


if __name__ == "__main__":
    unittest.main()
