"""Point 3: decide, and the words ahead of point 1 about when a rule holds."""

import itertools
import unittest

from tests.calls import HIGHEST, ask, begin, decide, last, rule


def plainly_decided(rules, case):
    """What decide answers, by the document's words, of rules as (outcome, bounds)."""
    for number, (outcome, bounds) in enumerate(rules):
        if all(case[at] in range(low, high + 1) for at, (low, high) in enumerate(bounds)):
            return [1, outcome, number]
    return [0]


class DecideTest(unittest.TestCase):
    def test_as_many_numbers_as_inputs(self):
        for inputs in range(1, 5):
            whole = rule(6, *[(0, 9)] * inputs)
            for count in range(11):
                with self.subTest(inputs=inputs, count=count):
                    told = last(begin(*[9] * inputs), whole, decide(*[0] * count))
                    self.assertEqual(told, [1, 6, 0] if count == inputs else [-22])

    def test_wrong_count_without_rules(self):
        self.assertEqual(ask(begin(9, 9), decide(), decide(1), decide(1, 2, 3)), [[0], [-22], [-22], [-22]])

    def test_number_about_its_top(self):
        for top in (0, 1, 9, 255, HIGHEST - 1):
            with self.subTest(top=top):
                told = ask(begin(top), decide(top + 1), rule(1, (0, top)), decide(top), decide(top + 1))
                self.assertEqual(told, [[0], [-22], [0], [1, 1, 0], [-22]])

    def test_one_number_of_several_above_its_top(self):
        tops = (3, 5, 0, 9)
        for at in range(4):
            case = list(tops)
            case[at] += 1
            with self.subTest(case=case):
                told = ask(begin(*tops), rule(1, *[(0, top) for top in tops]), decide(*case), decide(*tops))
                self.assertEqual(told[2:], [[-22], [1, 1, 0]])

    def test_each_number_has_its_own_top(self):
        self.assertEqual(ask(begin(3, 9), decide(3, 9), decide(9, 3)), [[0], [0], [-22]])

    def test_nothing_is_decided_without_rules(self):
        for inputs in range(1, 5):
            self.assertEqual(ask(begin(*[9] * inputs), decide(*[0] * inputs)), [[0], [0]])

    def test_nothing_is_decided_outside_of_the_rules(self):
        told = ask(begin(9), rule(1, (2, 3)), rule(2, (5, 6)), *[decide(number) for number in range(10)])
        self.assertEqual(
            told[3:], [[0], [0], [1, 1, 0], [1, 1, 0], [0], [1, 2, 1], [1, 2, 1], [0], [0], [0]])

    def test_rules_that_meet_at_a_bound(self):
        told = ask(begin(9), rule(1, (0, 4)), rule(2, (4, 9)), decide(3), decide(4), decide(5))
        self.assertEqual(told[3:], [[1, 1, 0], [1, 1, 0], [1, 2, 1]])
        told = ask(begin(9), rule(2, (4, 9)), rule(1, (0, 4)), decide(3), decide(4), decide(5))
        self.assertEqual(told[3:], [[1, 1, 1], [1, 2, 0], [1, 2, 0]])

    def test_rules_side_by_side(self):
        told = ask(begin(9), rule(1, (0, 4)), rule(2, (5, 9)), decide(4), decide(5))
        self.assertEqual(told[3:], [[1, 1, 0], [1, 2, 1]])

    def test_rule_within_another(self):
        told = ask(begin(9), rule(1, (3, 5)), rule(2, (0, 9)), decide(2), decide(3), decide(5), decide(6))
        self.assertEqual(told[3:], [[1, 2, 1], [1, 1, 0], [1, 1, 0], [1, 2, 1]])
        told = ask(begin(9), rule(2, (0, 9)), rule(1, (3, 5)), decide(2), decide(3), decide(5), decide(6))
        self.assertEqual(told[3:], [[1, 2, 0]] * 4)

    def test_the_first_of_several_that_hold(self):
        rules = [rule(50 - k, (k, 9)) for k in range(9, -1, -1)]
        told = ask(begin(9), *rules, *[decide(number) for number in range(10)])
        self.assertEqual(told[11:], [[1, 50 - number, 9 - number] for number in range(10)])

    def test_outcome_of_zero_is_decided(self):
        self.assertEqual(last(begin(9), rule(0, (0, 9)), rule(1, (0, 9)), decide(4)), [1, 0, 0])

    def test_deciding_changes_nothing(self):
        told = ask(begin(9), rule(1, (0, 4)), decide(3), decide(8), decide(10), decide(3), rule(2, (0, 9)), decide(8))
        self.assertEqual(told, [[0], [0], [1, 1, 0], [0], [-22], [1, 1, 0], [1], [1, 2, 1]])

    def test_a_rule_holds_only_if_each_number_lies_within(self):
        for inputs in range(1, 5):
            for case in itertools.product((1, 2, 4, 5), repeat=inputs):
                with self.subTest(case=case):
                    told = last(begin(*[9] * inputs), rule(8, *[(2, 4)] * inputs), decide(*case))
                    within = all(number in (2, 4) for number in case)
                    self.assertEqual(told, [1, 8, 0] if within else [0])

    def test_four_inputs_with_bounds_of_their_own(self):
        setup = (begin(9, 99, 999, HIGHEST), rule(200, (1, 2), (30, 40), (500, 600), (7000, HIGHEST)))
        self.assertEqual(last(*setup, decide(1, 30, 500, 7000)), [1, 200, 0])
        self.assertEqual(last(*setup, decide(2, 40, 600, HIGHEST)), [1, 200, 0])
        for case in ((0, 30, 500, 7000), (3, 30, 500, 7000), (1, 29, 500, 7000), (1, 41, 500, 7000),
                     (1, 30, 499, 7000), (1, 30, 601, 7000), (1, 30, 500, 6999)):
            with self.subTest(case=case):
                self.assertEqual(last(*setup, decide(*case)), [0])

    def test_every_case_of_small_tables(self):
        tables = (
            ((5,), [(3, [(1, 2)]), (4, [(2, 4)]), (3, [(0, 2)])]),
            ((3, 4), [(1, [(0, 1), (2, 3)]), (2, [(1, 3), (3, 4)]), (9, [(3, 3), (0, 4)]), (1, [(0, 3), (1, 1)])]),
            ((2, 0, 3), [(7, [(1, 1), (0, 0), (0, 2)]), (8, [(0, 2), (0, 0), (2, 3)])]),
            ((1, 2, 1, 2), [(5, [(0, 0), (1, 2), (0, 1), (0, 0)]), (6, [(0, 1), (2, 2), (1, 1), (0, 2)])]),
        )
        for tops, rules in tables:
            written = [rule(outcome, *bounds) for outcome, bounds in rules]
            for case in itertools.product(*[range(top + 1) for top in tops]):
                with self.subTest(tops=tops, case=case):
                    self.assertEqual(last(begin(*tops), *written, decide(*case)), plainly_decided(rules, case))


if __name__ == "__main__":
    unittest.main()
