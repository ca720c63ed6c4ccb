"""Point 6: needless."""

import unittest

from tests.calls import HIGHEST, ask, begin, decide, drop, gap, last, move, needless, rule


class NeedlessTest(unittest.TestCase):
    def test_no_rules(self):
        for k in (0, 1, HIGHEST):
            with self.subTest(k=k):
                self.assertEqual(last(begin(9), needless(k)), [-2])

    def test_k_about_the_number_of_rules(self):
        for count in range(1, 11):
            rules = [rule(k, (k, k)) for k in range(count)]
            with self.subTest(count=count):
                self.assertEqual(last(begin(9), *rules, needless(count - 1)), [0, count - 1])
                for k in (count, count + 1, HIGHEST):
                    self.assertEqual(last(begin(9), *rules, needless(k)), [-2])

    def test_the_only_rule(self):
        self.assertEqual(last(begin(9), rule(1, (4, 6)), needless(0)), [0, 4])
        self.assertEqual(last(begin(0), rule(0, (0, 0)), needless(0)), [0, 0])
        self.assertEqual(last(begin(HIGHEST), rule(255, (HIGHEST, HIGHEST)), needless(0)), [0, HIGHEST])
        self.assertEqual(last(begin(9, 9, 9, 9), rule(1, (4, 6), (0, 9), (9, 9), (2, 3)), needless(0)), [0, 4, 0, 9, 2])

    def test_rule_within_an_earlier_one(self):
        for outcome in (1, 2):
            with self.subTest(outcome=outcome):
                rules = [rule(1, (2, 7), (0, 9)), rule(outcome, (3, 7), (4, 9))]
                self.assertEqual(last(begin(9, 9), *rules, needless(1)), [1])
                self.assertEqual(last(begin(9, 9), *rules, needless(0)), [0, 2, 0])

    def test_rule_that_reaches_one_number_beyond_an_earlier_one(self):
        for outcome in (1, 2):
            with self.subTest(outcome=outcome):
                self.assertEqual(last(begin(9), rule(1, (2, 6)), rule(outcome, (3, 7)), needless(1)), [0, 7])
                self.assertEqual(last(begin(9), rule(1, (3, 7)), rule(outcome, (2, 7)), needless(1)), [0, 2])

    def test_rule_whose_cases_earlier_ones_share(self):
        parts = [rule(1, (0, 3), (0, 9)), rule(2, (4, 9), (5, 9)), rule(3, (4, 9), (0, 4))]
        self.assertEqual(last(begin(9, 9), *parts, rule(7, (2, 6), (3, 8)), needless(3)), [1])
        self.assertEqual(last(begin(9, 9), *parts, rule(7, (0, 9), (0, 9)), needless(3)), [1])
        self.assertEqual(last(begin(9, 9), *parts[1:], rule(7, (2, 6), (3, 8)), needless(2)), [0, 2, 3])

    def test_one_case_that_earlier_ones_leave(self):
        parts = [rule(1, (0, 3), (0, 9)), rule(2, (4, 9), (6, 9)), rule(3, (5, 9), (0, 5)), rule(3, (4, 4), (0, 4))]
        self.assertEqual(last(begin(9, 9), *parts, rule(7, (0, 9), (0, 9)), needless(4)), [0, 4, 5])

    def test_shared_by_earlier_ones_and_by_a_later_one_with_the_same_outcome(self):
        rules = [rule(1, (0, 3)), rule(5, (2, 8)), rule(2, (7, 9)), rule(5, (4, 6))]
        self.assertEqual(last(begin(9), *rules, needless(1)), [0, 7])
        self.assertEqual(last(begin(9), *rules, move(2, 0), needless(2)), [1])

    def test_later_rule_with_the_same_outcome_holds_in_all_its_cases(self):
        self.assertEqual(last(begin(9), rule(1, (3, 5)), rule(1, (2, 5)), needless(0)), [1])
        self.assertEqual(last(begin(9), rule(1, (3, 5)), rule(1, (3, 4)), rule(1, (5, 6)), needless(0)), [1])

    def test_another_outcome_between(self):
        rules = [rule(1, (3, 5)), rule(2, (5, 5)), rule(1, (0, 9))]
        self.assertEqual(last(begin(9), *rules, needless(0)), [0, 5])
        self.assertEqual(last(begin(9), *rules, needless(1)), [1])
        self.assertEqual(last(begin(9), *rules, needless(2)), [0, 0])

    def test_another_outcome_behind(self):
        self.assertEqual(last(begin(9), rule(1, (3, 5)), rule(2, (0, 9)), needless(0)), [0, 3])
        self.assertEqual(last(begin(9), rule(1, (3, 5)), rule(1, (3, 4)), rule(2, (0, 9)), needless(0)), [0, 5])

    def test_nothing_behind(self):
        self.assertEqual(last(begin(9), rule(1, (3, 5)), rule(1, (0, 4)), needless(0)), [0, 5])
        self.assertEqual(last(begin(9), rule(1, (3, 5)), rule(1, (4, 9)), needless(0)), [0, 3])
        self.assertEqual(last(begin(9), rule(0, (3, 5)), needless(0)), [0, 3])

    def test_another_outcome_earlier_than_nothing(self):
        self.assertEqual(last(begin(9), rule(1, (2, 8)), rule(1, (0, 4)), rule(2, (5, 6)), needless(0)), [0, 5])
        self.assertEqual(last(begin(9), rule(1, (2, 8)), rule(1, (0, 4)), rule(2, (7, 9)), needless(0)), [0, 5])

    def test_the_same_rule_twice(self):
        same = [rule(1, (3, 5)), rule(1, (3, 5))]
        self.assertEqual(ask(begin(9), *same, needless(0), needless(1))[3:], [[1], [1]])
        other = [rule(1, (3, 5)), rule(2, (3, 5))]
        self.assertEqual(ask(begin(9), *other, needless(0), needless(1))[3:], [[0, 3], [1]])

    def test_gap_behind_does_not_matter_to_a_rule_that_is_hidden(self):
        told = ask(begin(9), rule(1, (3, 5)), rule(2, (4, 4)), gap(), needless(1))
        self.assertEqual(told[3:], [[1, 0], [1]])

    def test_rules_are_the_same_after_needless_as_before(self):
        rules = [rule(1, (3, 5)), rule(2, (4, 8)), rule(1, (0, 9))]
        asked = [decide(2), decide(5), decide(8), needless(0), needless(1), needless(2)]
        told = ask(begin(9), *rules, *asked, needless(3), *asked, drop(0), drop(0), drop(0), drop(0))
        self.assertEqual(told[4:10], [[1, 1, 2], [1, 1, 0], [1, 2, 1], [0, 4], [0, 6], [0, 0]])
        self.assertEqual(told[10:], [[-2], *told[4:10], [2], [1], [0], [-2]])

    def test_ten_rules(self):
        rules = [rule(k % 2, (k, 9), (0, 9 - k)) for k in range(10)]
        told = ask(begin(9, 9), *rules, *[needless(k) for k in range(10)])
        self.assertEqual(told[11:], [[0, 0, 0]] + [[1]] * 9)
        told = ask(begin(9, 9), *rules[::-1], *[needless(k) for k in range(10)])
        self.assertEqual(told[11:], [[0, 9 - k, 0] for k in range(10)])

    def test_after_drop_and_move(self):
        told = ask(begin(9), rule(1, (0, 9)), rule(2, (3, 5)), needless(1), move(1, 0), needless(1), needless(0),
                   drop(1), needless(0), needless(1))
        self.assertEqual(told[3:], [[1], [0], [0, 0], [0, 3], [1], [0, 3], [-2]])

    def test_highest_tops(self):
        tops = [HIGHEST] * 4
        whole = rule(1, *[(0, HIGHEST)] * 4)
        almost = rule(1, (0, HIGHEST), (0, HIGHEST), (0, HIGHEST), (0, HIGHEST - 1))
        self.assertEqual(last(begin(*tops), almost, whole, needless(1)), [0, 0, 0, 0, HIGHEST])
        self.assertEqual(last(begin(*tops), almost, whole, needless(0)), [1])
        self.assertEqual(last(begin(*tops), whole, almost, needless(1)), [1])


if __name__ == "__main__":
    unittest.main()
