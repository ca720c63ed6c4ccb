"""Point 7: keep and differ; and point 1 once more, that with a begin none are kept."""

import unittest

from tests.calls import HIGHEST, ask, begin, clash, decide, differ, drop, gap, keep, last, move, needless, rule


class KeepTest(unittest.TestCase):
    def test_how_many_rules_there_are(self):
        for count in range(11):
            with self.subTest(count=count):
                self.assertEqual(last(begin(9), *[rule(1, (0, 9))] * count, keep()), [count])

    def test_how_many_there_are_after_drop_and_move(self):
        told = ask(begin(9), rule(1, (0, 9)), rule(2, (0, 9)), keep(), move(0, 1), keep(), drop(0), keep(), drop(0),
                   keep())
        self.assertEqual(told[3:], [[2], [0], [2], [1], [1], [0], [0]])

    def test_keeping_changes_no_rule(self):
        told = ask(begin(9), rule(1, (0, 4)), rule(2, (3, 8)), keep(), decide(3), decide(8), decide(9), gap(), clash(),
                   needless(1), rule(3, (9, 9)))
        self.assertEqual(told[3:], [[2], [1, 1, 0], [1, 2, 1], [0], [1, 9], [1, 0, 1, 3], [0, 5], [2]])

    def test_keep_twice_keeps_the_later_ones(self):
        told = ask(begin(9), rule(1, (0, 4)), keep(), rule(2, (5, 9)), differ(), keep(), differ(), drop(1), differ())
        self.assertEqual(told[2:], [[1], [1], [1, 3, 0, 5], [2], [0], [1], [1, 0, 3, 5]])

    def test_keep_twice_without_a_change(self):
        self.assertEqual(ask(begin(9), rule(1, (0, 4)), keep(), keep(), differ())[2:], [[1], [1], [0]])

    def test_ten_kept_leave_room_for_ten_rules(self):
        ten = [rule(k, (k, k)) for k in range(10)]
        told = ask(begin(9), *ten, keep(), rule(1, (0, 9)), *[drop(0)] * 10, *ten, differ())
        self.assertEqual(told[11:13], [[10], [-28]])
        self.assertEqual(told[23:], [[k] for k in range(10)] + [[0]])


class DifferTest(unittest.TestCase):
    def test_before_any_keep_and_with_no_rules(self):
        for inputs in range(1, 5):
            with self.subTest(inputs=inputs):
                self.assertEqual(last(begin(*[9] * inputs), differ()), [0])

    def test_before_any_keep_and_with_rules(self):
        self.assertEqual(last(begin(9), rule(7, (3, 5)), differ()), [1, 8, 0, 3])
        self.assertEqual(last(begin(9), rule(7, (3, 5)), rule(8, (2, 9)), differ()), [1, 9, 0, 2])
        self.assertEqual(last(begin(9, 9), rule(7, (3, 5), (1, 2)), rule(8, (2, 9), (9, 9)), differ()), [1, 9, 0, 2, 9])

    def test_kept_before_any_rule(self):
        told = ask(begin(9), keep(), differ(), rule(7, (3, 5)), differ(), drop(0), differ())
        self.assertEqual(told[1:], [[0], [0], [0], [1, 8, 0, 3], [0], [0]])

    def test_rules_gone_since(self):
        self.assertEqual(last(begin(9), rule(7, (3, 5)), keep(), drop(0), differ()), [1, 0, 8, 3])

    def test_just_kept(self):
        told = last(begin(9), rule(7, (3, 5)), rule(8, (4, 9)), rule(7, (3, 5)), keep(), differ())
        self.assertEqual(told, [0])

    def test_first_the_rules_then_the_kept_ones(self):
        told = ask(begin(9), rule(20, (3, 5)), keep(), drop(0), rule(30, (3, 5)), differ(), keep(), differ())
        self.assertEqual(told[5:], [[1, 31, 21, 3], [1], [0]])

    def test_outcome_of_zero_is_not_nothing(self):
        self.assertEqual(last(begin(9), rule(0, (3, 5)), differ()), [1, 1, 0, 3])
        self.assertEqual(last(begin(9), rule(0, (3, 5)), keep(), drop(0), differ()), [1, 0, 1, 3])
        self.assertEqual(last(begin(9), rule(0, (3, 5)), keep(), drop(0), rule(1, (3, 5)), differ()), [1, 2, 1, 3])

    def test_outcome_of_255(self):
        kept = (begin(9), rule(255, (3, 5)), keep(), drop(0))
        self.assertEqual(last(*kept, rule(254, (4, 5)), differ()), [1, 0, 256, 3])
        self.assertEqual(last(*kept, rule(254, (3, 5)), differ()), [1, 255, 256, 3])

    def test_rule_added_where_it_matters_and_where_it_does_not(self):
        kept = (begin(9), rule(1, (2, 6)), keep())
        self.assertEqual(last(*kept, rule(2, (3, 6)), differ()), [0])
        self.assertEqual(last(*kept, rule(1, (2, 4)), differ()), [0])
        self.assertEqual(last(*kept, rule(2, (3, 7)), differ()), [1, 3, 0, 7])

    def test_rule_dropped_where_it_matters_and_where_it_does_not(self):
        kept = (begin(9), rule(1, (2, 6)), rule(2, (3, 5)), rule(2, (5, 8)), rule(1, (1, 4)), keep())
        self.assertEqual(last(*kept, drop(1), differ()), [0])
        self.assertEqual(last(*kept, drop(0), differ()), [1, 3, 2, 3])
        self.assertEqual(last(*kept, drop(2), differ()), [1, 0, 3, 7])
        self.assertEqual(last(*kept, drop(3), differ()), [1, 0, 2, 1])

    def test_order_changed_where_rules_clash(self):
        kept = (begin(9, 9), rule(1, (0, 6), (2, 9)), rule(2, (4, 9), (0, 7)), keep())
        self.assertEqual(last(*kept, move(1, 0), differ()), [1, 3, 2, 4, 2])
        self.assertEqual(last(*kept, move(0, 1), move(0, 1), differ()), [0])

    def test_order_changed_where_rules_do_not_clash(self):
        self.assertEqual(last(begin(9), rule(1, (0, 4)), rule(2, (5, 9)), keep(), move(1, 0), differ()), [0])
        self.assertEqual(last(begin(9), rule(1, (0, 6)), rule(1, (5, 9)), keep(), move(1, 0), differ()), [0])

    def test_order_changed_where_rules_clash_behind_an_earlier_one(self):
        rules = [rule(3, (4, 6)), rule(1, (0, 6)), rule(2, (4, 9))]
        self.assertEqual(last(begin(9), *rules, keep(), move(2, 1), differ()), [0])
        self.assertEqual(last(begin(9), *rules, keep(), move(2, 0), differ()), [1, 3, 4, 4])

    def test_other_rules_that_decide_the_same(self):
        kept = (begin(9, 9), rule(1, (2, 7), (2, 7)), keep(), drop(0))
        parts = [rule(1, (2, 4), (2, 7)), rule(1, (5, 7), (2, 3)), rule(1, (5, 7), (4, 7))]
        self.assertEqual(last(*kept, *parts, differ()), [0])
        self.assertEqual(last(*kept, *parts[:2], differ()), [1, 0, 2, 5, 4])
        self.assertEqual(last(*kept, *parts[:2], rule(1, (5, 7), (5, 7)), differ()), [1, 0, 2, 5, 4])
        self.assertEqual(last(*kept, *parts[:2], rule(1, (5, 8), (4, 7)), differ()), [1, 2, 0, 8, 4])

    def test_kept_ones_stay_when_the_rules_change(self):
        told = ask(begin(9), rule(1, (0, 4)), rule(2, (3, 8)), keep(), drop(0), differ(), move(0, 0), drop(0), differ(),
                   rule(1, (0, 4)), differ(), rule(2, (3, 8)), differ(), move(0, 1), differ(), move(0, 1), differ())
        self.assertEqual(told[3:], [
            [2], [1], [1, 0, 2, 0], [0], [0], [1, 0, 2, 0], [0], [1, 0, 3, 5], [1], [0], [0], [1, 3, 2, 3], [0], [0]])

    def test_differ_changes_nothing(self):
        told = ask(begin(9), rule(1, (0, 4)), keep(), rule(2, (3, 8)), differ(), differ(), decide(4), decide(8),
                   decide(9), drop(1), differ(), drop(0), drop(0))
        self.assertEqual(told[4:], [[1, 3, 0, 5], [1, 3, 0, 5], [1, 1, 0], [1, 2, 1], [0], [1], [0], [0], [-2]])

    def test_refused_calls_change_neither_the_rules_nor_the_kept_ones(self):
        refused = [rule(256, (0, 9)), rule(1), drop(1), move(1, 0), move(0, 1), decide(10), needless(1), begin()]
        told = ask(begin(9), rule(1, (0, 4)), keep(), *refused, differ(), drop(0), *refused[:2], differ())
        self.assertEqual(told[3:], [
            [-22], [-22], [-2], [-2], [-22], [-22], [-2], [-22], [0], [0], [-22], [-22], [1, 0, 2, 0]])

    def test_begin_takes_the_kept_ones_away(self):
        self.assertEqual(last(begin(9), rule(1, (0, 4)), keep(), begin(9), differ()), [0])
        self.assertEqual(last(begin(9), rule(1, (0, 4)), keep(), begin(9), rule(1, (0, 4)), differ()), [1, 2, 0, 0])
        self.assertEqual(last(begin(9), rule(1, (0, 4)), keep(), begin(9, 9), rule(1, (0, 4), (2, 3)), differ()),
                         [1, 2, 0, 0, 2])

    def test_refused_begin_leaves_the_kept_ones(self):
        for refused in (begin(), begin(1, 2, 3, 4, 5), begin(*range(10))):
            with self.subTest(refused=refused):
                told = ask(begin(9), rule(1, (0, 4)), keep(), refused, differ(), drop(0), differ())
                self.assertEqual(told[3:], [[-22], [0], [0], [1, 0, 2, 0]])

    def test_difference_at_the_highest_top_alone(self):
        for inputs in range(1, 5):
            for at in range(inputs):
                whole = [(0, HIGHEST)] * inputs
                almost = list(whole)
                almost[at] = (0, HIGHEST - 1)
                case = [0] * inputs
                case[at] = HIGHEST
                with self.subTest(inputs=inputs, at=at):
                    kept = (begin(*[HIGHEST] * inputs), rule(5, *whole), keep(), drop(0))
                    self.assertEqual(last(*kept, rule(5, *almost), differ()), [1, 0, 6] + case)

    def test_top_of_zero(self):
        told = ask(begin(0, 0), rule(5, (0, 0), (0, 0)), differ(), keep(), differ(), rule(6, (0, 0), (0, 0)), differ(),
                   move(1, 0), differ())
        self.assertEqual(told[2::2], [[1, 6, 0, 0, 0], [0], [0], [1, 7, 6, 0, 0]])


if __name__ == "__main__":
    unittest.main()
