"""Point 2: drop and move."""

import unittest

from tests.calls import HIGHEST, ask, begin, decide, drop, last, move, rule


def single_rules(count):
    """Rules of which rule k holds at the number k alone, with the outcome 100 + k."""
    return [rule(100 + k, (k, k)) for k in range(count)]


def order(count, *changes):
    """The outcomes of single_rules(count) in the order in which the rules stand after the changes."""
    told = ask(begin(9), *single_rules(count), *changes, *[decide(k) for k in range(count)])
    found = [answer[1:] for answer in told[-count:] if answer != [0]]
    numbers = sorted(number for outcome, number in found)
    if numbers != list(range(len(found))):
        raise AssertionError(f"the rules' numbers are {numbers}")
    return [outcome - 100 for outcome, number in sorted(found, key=lambda pair: pair[1])]


class DropTest(unittest.TestCase):
    def test_no_rules(self):
        for k in (0, 1, HIGHEST):
            with self.subTest(k=k):
                self.assertEqual(ask(begin(9), drop(k)), [[0], [-2]])

    def test_k_about_the_number_of_rules(self):
        for count in range(1, 11):
            rules = single_rules(count)
            with self.subTest(count=count):
                self.assertEqual(last(begin(9), *rules, drop(count - 1)), [count - 1])
                self.assertEqual(last(begin(9), *rules, drop(count)), [-2])
                self.assertEqual(last(begin(9), *rules, drop(count + 1)), [-2])
                self.assertEqual(last(begin(9), *rules, drop(HIGHEST)), [-2])

    def test_those_behind_come_one_up(self):
        for k in range(5):
            with self.subTest(k=k):
                self.assertEqual(order(5, drop(k)), [j for j in range(5) if j != k])

    def test_dropping_one_after_another(self):
        told = ask(begin(9), *single_rules(3), drop(1), drop(1), drop(1), drop(0), drop(0))
        self.assertEqual(told[4:], [[2], [1], [-2], [0], [-2]])

    def test_dropped_rule_decides_no_more(self):
        told = ask(begin(9), rule(1, (0, 9)), rule(2, (0, 5)), decide(3), drop(0), decide(3), decide(6))
        self.assertEqual(told[3:], [[1, 1, 0], [1], [1, 2, 0], [0]])

    def test_refused_drop_changes_nothing(self):
        self.assertEqual(order(4, drop(4), drop(5), drop(HIGHEST)), [0, 1, 2, 3])


class MoveTest(unittest.TestCase):
    def test_no_rules(self):
        self.assertEqual(ask(begin(9), move(0, 0), move(0, 1), move(HIGHEST, HIGHEST)), [[0], [-2], [-2], [-2]])

    def test_k_is_no_rules_number(self):
        for k in (3, 4, HIGHEST):
            with self.subTest(k=k):
                self.assertEqual(last(begin(9), *single_rules(3), move(k, 0)), [-2])

    def test_to_is_no_rules_number(self):
        for to in (3, 4, HIGHEST):
            with self.subTest(to=to):
                self.assertEqual(last(begin(9), *single_rules(3), move(0, to)), [-22])

    def test_neither_is_a_rules_number(self):
        for k, to in ((3, 3), (4, 3), (3, 4), (HIGHEST, HIGHEST)):
            with self.subTest(k=k, to=to):
                self.assertEqual(last(begin(9), *single_rules(3), move(k, to)), [-2])

    def test_every_move_of_five_rules(self):
        for k in range(5):
            for to in range(5):
                others = [j for j in range(5) if j != k]
                with self.subTest(k=k, to=to):
                    self.assertEqual(last(begin(9), *single_rules(5), move(k, to)), [0])
                    self.assertEqual(order(5, move(k, to)), others[:to] + [k] + others[to:])

    def test_written_out_orders(self):
        self.assertEqual(order(4, move(3, 1)), [0, 3, 1, 2])
        self.assertEqual(order(4, move(0, 2)), [1, 2, 0, 3])
        self.assertEqual(order(4, move(0, 3)), [1, 2, 3, 0])
        self.assertEqual(order(4, move(2, 2)), [0, 1, 2, 3])

    def test_only_rule_to_itself(self):
        self.assertEqual(ask(begin(9), rule(4, (0, 9)), move(0, 0), decide(1)), [[0], [0], [0], [1, 4, 0]])

    def test_ten_rules(self):
        self.assertEqual(order(10, move(9, 0)), [9, 0, 1, 2, 3, 4, 5, 6, 7, 8])
        self.assertEqual(order(10, move(0, 9)), [1, 2, 3, 4, 5, 6, 7, 8, 9, 0])

    def test_order_changed_where_rules_clash(self):
        told = ask(begin(9), rule(1, (0, 6)), rule(2, (4, 9)), decide(5), move(1, 0), decide(5), decide(3), decide(9))
        self.assertEqual(told[3:], [[1, 1, 0], [0], [1, 2, 0], [1, 1, 1], [1, 2, 0]])

    def test_refused_moves_change_nothing(self):
        self.assertEqual(order(3, move(3, 0), move(0, 3), move(3, 3), move(HIGHEST, 1), move(1, HIGHEST)), [0, 1, 2])

    def test_moves_behind_drops(self):
        self.assertEqual(order(5, drop(1), move(3, 0)), [4, 0, 2, 3])
        self.assertEqual(last(begin(9), *single_rules(3), drop(0), move(2, 0)), [-2])
        self.assertEqual(last(begin(9), *single_rules(3), drop(0), move(0, 2)), [-22])

    def test_moving_makes_no_rule_more_or_less(self):
        told = ask(begin(9), *single_rules(3), move(0, 2), rule(9, (0, 9)), drop(0))
        self.assertEqual(told[4:], [[0], [3], [3]])


if __name__ == "__main__":
    unittest.main()
