"""Point 5: clash."""

import unittest

from tests.calls import HIGHEST, ask, begin, clash, decide, drop, last, move, rule


class ClashTest(unittest.TestCase):
    def test_no_rules_and_one_rule(self):
        self.assertEqual(ask(begin(9), clash(), rule(1, (0, 9)), clash()), [[0], [0], [0], [0]])

    def test_the_same_rule_twice(self):
        self.assertEqual(last(begin(9), rule(4, (2, 5)), rule(4, (2, 5)), clash()), [0])
        self.assertEqual(last(begin(9), rule(4, (2, 5)), rule(5, (2, 5)), clash()), [1, 0, 1, 2])

    def test_outcomes_of_zero_and_255(self):
        self.assertEqual(last(begin(9), rule(0, (2, 5)), rule(255, (4, 6)), clash()), [1, 0, 1, 4])
        self.assertEqual(last(begin(9), rule(0, (2, 5)), rule(0, (4, 6)), clash()), [0])

    def test_rules_that_share_just_one_number(self):
        for inputs in range(1, 5):
            for at in range(inputs):
                for first, second in (((0, 4), (4, 9)), ((4, 9), (0, 4))):
                    lower, upper = [(1, 8)] * inputs, [(2, 9)] * inputs
                    lower[at], upper[at] = first, second
                    case = [2] * inputs
                    case[at] = 4
                    with self.subTest(inputs=inputs, at=at, first=first):
                        told = last(begin(*[9] * inputs), rule(1, *lower), rule(2, *upper), clash())
                        self.assertEqual(told, [1, 0, 1] + case)

    def test_rules_that_share_no_number_at_one_input(self):
        for inputs in range(1, 5):
            for at in range(inputs):
                for first, second in (((0, 4), (5, 9)), ((5, 9), (0, 4)), ((0, 1), (9, 9))):
                    lower, upper = [(0, 9)] * inputs, [(0, 9)] * inputs
                    lower[at], upper[at] = first, second
                    with self.subTest(inputs=inputs, at=at, first=first):
                        told = last(begin(*[9] * inputs), rule(1, *lower), rule(2, *upper), clash())
                        self.assertEqual(told, [0])

    def test_rule_within_another(self):
        self.assertEqual(last(begin(9, 9), rule(1, (3, 4), (5, 6)), rule(2, (0, 9), (0, 9)), clash()), [1, 0, 1, 3, 5])
        self.assertEqual(last(begin(9, 9), rule(2, (0, 9), (0, 9)), rule(1, (3, 4), (5, 6)), clash()), [1, 0, 1, 3, 5])

    def test_highest_top_and_top_of_zero(self):
        told = last(begin(HIGHEST, 0), rule(1, (0, HIGHEST), (0, 0)), rule(2, (HIGHEST, HIGHEST), (0, 0)), clash())
        self.assertEqual(told, [1, 0, 1, HIGHEST, 0])
        told = last(begin(HIGHEST, 0), rule(1, (0, HIGHEST - 1), (0, 0)), rule(2, (HIGHEST, HIGHEST), (0, 0)), clash())
        self.assertEqual(told, [0])

    def test_third_rule_clashes_with_the_later_of_an_earlier_pair(self):
        rules = [rule(1, (0, 4)), rule(1, (3, 7)), rule(2, (6, 9))]
        self.assertEqual(last(begin(9), *rules, clash()), [1, 1, 2, 6])

    def test_clash_where_an_earlier_rule_decides(self):
        rules = [rule(1, (0, 9)), rule(1, (2, 5)), rule(2, (4, 6))]
        self.assertEqual(last(begin(9), *rules, clash()), [1, 0, 2, 4])
        rules = [rule(1, (0, 9)), rule(2, (3, 5)), rule(3, (4, 6))]
        self.assertEqual(ask(begin(9), *rules, clash(), drop(0), clash())[4:], [[1, 0, 1, 3], [2], [1, 0, 1, 4]])

    def test_clash_with_rules_of_the_same_outcome_between(self):
        rules = [rule(7, (3, 3), (0, 4)), rule(7, (0, 9), (2, 2)), rule(7, (3, 3), (2, 2)), rule(8, (3, 3), (5, 9))]
        self.assertEqual(last(begin(9, 9), *rules, clash()), [0])
        self.assertEqual(last(begin(9, 9), *rules, rule(9, (3, 9), (2, 2)), clash()), [1, 0, 4, 3, 2])

    def test_least_pair_of_several(self):
        # The pairs 0 and 3, 1 and 2, 1 and 3 clash.
        rules = [rule(1, (7, 9)), rule(2, (0, 5)), rule(3, (0, 1)), rule(4, (2, 8))]
        self.assertEqual(last(begin(9), *rules, clash()), [1, 0, 3, 7])
        # The pairs 1 and 2, 1 and 3, 2 and 3 clash.
        rules = [rule(1, (9, 9)), rule(2, (5, 8)), rule(3, (4, 6)), rule(4, (0, 7))]
        self.assertEqual(last(begin(9), *rules, clash()), [1, 1, 2, 5])

    def test_earliest_case_of_the_pair_need_not_be_the_earliest_of_all(self):
        rules = [rule(1, (5, 9), (0, 9)), rule(2, (0, 9), (3, 9)), rule(3, (0, 4), (0, 9))]
        self.assertEqual(last(begin(9, 9), *rules, clash()), [1, 0, 1, 5, 3])
        self.assertEqual(last(begin(9, 9), *rules, drop(0), clash()), [1, 0, 1, 0, 3])

    def test_case_takes_its_numbers_from_both_rules(self):
        told = last(begin(9, 9, 9, 9), rule(1, (1, 9), (0, 5), (7, 7), (0, 9)), rule(2, (0, 4), (3, 9), (2, 9), (8, 9)),
                    clash())
        self.assertEqual(told, [1, 0, 1, 1, 3, 7, 8])

    def test_ten_rules_of_which_the_last_two_clash(self):
        rules = [rule(k, (k, k)) for k in range(8)] + [rule(8, (8, 9)), rule(9, (9, 9))]
        self.assertEqual(last(begin(9), *rules, clash()), [1, 8, 9, 9])
        self.assertEqual(last(begin(9), *rules[:9], clash()), [0])

    def test_after_a_move(self):
        rules = [rule(1, (0, 2)), rule(2, (4, 8)), rule(3, (6, 9))]
        told = ask(begin(9), *rules, clash(), move(2, 0), clash(), move(1, 2), clash(), move(0, 1), clash())
        self.assertEqual(told[4::2], [[1, 1, 2, 6], [1, 0, 2, 6], [1, 0, 1, 6], [1, 0, 1, 6]])

    def test_after_a_drop(self):
        rules = [rule(1, (0, 5)), rule(2, (4, 8)), rule(3, (7, 9))]
        told = ask(begin(9), *rules, clash(), drop(0), clash(), drop(1), clash())
        self.assertEqual(told[4::2], [[1, 0, 1, 4], [1, 0, 1, 7], [0]])
        self.assertEqual(last(begin(9), *rules, drop(1), clash()), [0])

    def test_clash_changes_nothing(self):
        told = ask(begin(9), rule(1, (0, 5)), rule(2, (4, 8)), clash(), clash(), decide(4), decide(8), drop(0))
        self.assertEqual(told[3:], [[1, 0, 1, 4], [1, 0, 1, 4], [1, 1, 0], [1, 2, 1], [1]])

    def test_after_another_begin(self):
        told = ask(begin(9), rule(1, (0, 5)), rule(2, (4, 8)), begin(), clash(), begin(9), clash())
        self.assertEqual(told[3:], [[-22], [1, 0, 1, 4], [0], [0]])


if __name__ == "__main__":
    unittest.main()
