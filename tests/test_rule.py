"""Point 2: rule."""

import unittest

from tests.calls import HIGHEST, ask, begin, decide, drop, last, rule

TEN = [rule(1, (0, 9))] * 10


class RuleTest(unittest.TestCase):
    def test_outcome_of_zero_and_of_255(self):
        told = ask(begin(9), rule(0, (0, 4)), rule(255, (5, 9)), decide(4), decide(5))
        self.assertEqual(told, [[0], [0], [1], [1, 0, 0], [1, 255, 1]])

    def test_outcome_above_255_is_refused(self):
        for outcome in (256, 257, 511, HIGHEST):
            with self.subTest(outcome=outcome):
                self.assertEqual(ask(begin(9), rule(outcome, (0, 9)), decide(3)), [[0], [-22], [0]])

    def test_as_many_bounds_as_inputs(self):
        for inputs in range(1, 5):
            for bounds in range(11):
                with self.subTest(inputs=inputs, bounds=bounds):
                    told = last(begin(*[9] * inputs), rule(1, *[(0, 9)] * bounds))
                    self.assertEqual(told, [0] if bounds == inputs else [-22])

    def test_from_above_to_is_refused(self):
        self.assertEqual(last(begin(9), rule(1, (4, 3))), [-22])
        self.assertEqual(last(begin(9), rule(1, (9, 0))), [-22])
        self.assertEqual(last(begin(9), rule(1, (HIGHEST, 9))), [-22])

    def test_from_may_be_to(self):
        told = ask(begin(9), rule(1, (4, 4)), decide(3), decide(4), decide(5))
        self.assertEqual(told, [[0], [0], [0], [1, 1, 0], [0]])

    def test_to_up_to_the_top(self):
        for top in (0, 1, 9, 255, 256, HIGHEST - 1):
            with self.subTest(top=top):
                told = ask(begin(top), rule(1, (0, top + 1)), rule(2, (top, top + 1)), rule(3, (0, top)), decide(top))
                self.assertEqual(told, [[0], [-22], [-22], [0], [1, 3, 0]])

    def test_to_is_the_highest_top(self):
        told = ask(begin(HIGHEST), rule(3, (HIGHEST, HIGHEST)), decide(HIGHEST), decide(HIGHEST - 1))
        self.assertEqual(told, [[0], [0], [1, 3, 0], [0]])

    def test_from_and_to_above_the_top_are_refused(self):
        self.assertEqual(last(begin(9), rule(1, (10, 11))), [-22])

    def test_each_bound_is_looked_at(self):
        tops = (3, 5, 7, 9)
        for wrong_at in range(4):
            top = tops[wrong_at]
            for wrong in ((0, top + 1), (2, 1), (top, top - 1)):
                bounds = [(0, t) for t in tops]
                bounds[wrong_at] = wrong
                with self.subTest(bounds=bounds):
                    self.assertEqual(last(begin(*tops), rule(1, *bounds)), [-22])

    def test_bounds_belong_to_the_inputs_in_order(self):
        told = ask(begin(3, 9), rule(1, (0, 9), (0, 3)), rule(2, (0, 3), (0, 9)))
        self.assertEqual(told, [[0], [-22], [0]])

    def test_numbers_of_the_first_ten_and_the_eleventh(self):
        told = ask(begin(9), *TEN, rule(1, (0, 9)), rule(2, (3, 3)), drop(9))
        self.assertEqual(told, [[0]] + [[k] for k in range(10)] + [[-28], [-28], [9]])

    def test_refused_before_room_is_looked_for(self):
        for wrong in (rule(256, (0, 9)), rule(1), rule(1, (0, 9), (0, 9)), rule(1, (5, 4)), rule(1, (0, 10))):
            with self.subTest(wrong=wrong):
                self.assertEqual(last(begin(9), *TEN, wrong), [-22])

    def test_room_again_after_a_drop(self):
        told = ask(begin(9), *TEN, drop(3), rule(5, (0, 9)), rule(5, (0, 9)))
        self.assertEqual(told[11:], [[9], [9], [-28]])

    def test_number_after_a_drop(self):
        told = ask(begin(9), rule(1, (0, 9)), rule(2, (0, 9)), drop(0), rule(3, (0, 9)), drop(0), drop(0), rule(4, (0, 9)))
        self.assertEqual(told, [[0], [0], [1], [1], [1], [1], [0], [0]])

    def test_new_rule_is_the_last(self):
        told = ask(begin(9), rule(1, (0, 5)), rule(2, (0, 9)), decide(5), decide(6))
        self.assertEqual(told[3:], [[1, 1, 0], [1, 2, 1]])

    def test_refused_rules_change_nothing(self):
        wrong = [rule(256, (0, 9)), rule(2), rule(2, (0, 9), (0, 9)), rule(2, (5, 4)), rule(2, (0, 10))]
        told = ask(begin(9), rule(1, (0, 4)), *wrong, decide(3), decide(5), rule(7, (0, 9)), decide(5))
        self.assertEqual(told, [[0], [0]] + [[-22]] * 5 + [[1, 1, 0], [0], [1], [1, 7, 1]])

    def test_rule_without_room_changes_nothing(self):
        ten = [rule(1, (0, 4))] * 10
        told = ask(begin(9), *ten, rule(2, (0, 9)), decide(3), decide(5), drop(0))
        self.assertEqual(told[11:], [[-28], [1, 1, 0], [0], [9]])

    def test_the_same_rule_twice(self):
        told = ask(begin(9), rule(1, (2, 3)), rule(1, (2, 3)), rule(2, (2, 3)), decide(2))
        self.assertEqual(told, [[0], [0], [1], [2], [1, 1, 0]])


if __name__ == "__main__":
    unittest.main()
