"""Point 1: begin."""

import unittest

from tests.calls import HIGHEST, ask, begin, decide, drop, last, rule


class BeginTest(unittest.TestCase):
    def test_no_tops_are_refused(self):
        self.assertEqual(ask(begin()), [[-22]])

    def test_one_to_four_tops_are_taken(self):
        for count in range(1, 5):
            with self.subTest(count=count):
                self.assertEqual(ask(begin(*range(count))), [[0]])

    def test_five_to_ten_tops_are_refused(self):
        for count in range(5, 11):
            with self.subTest(count=count):
                self.assertEqual(ask(begin(*range(count))), [[-22]])

    def test_tops_are_the_inputs_tops_in_order(self):
        for at in range(4):
            tops = [3, 5, 7, 9]
            self.assertEqual(last(begin(*tops), decide(*tops)), [0])
            above = list(tops)
            above[at] += 1
            with self.subTest(at=at):
                self.assertEqual(last(begin(*tops), decide(*above)), [-22])

    def test_top_of_zero(self):
        told = ask(begin(0), rule(7, (0, 0)), rule(7, (0, 1)), decide(0), decide(1))
        self.assertEqual(told, [[0], [0], [-22], [1, 7, 0], [-22]])

    def test_highest_top(self):
        told = ask(begin(HIGHEST), rule(7, (1, HIGHEST)), decide(HIGHEST), decide(0))
        self.assertEqual(told, [[0], [0], [1, 7, 0], [0]])

    def test_there_are_no_rules_at_first(self):
        self.assertEqual(ask(begin(5), decide(3), drop(0)), [[0], [0], [-2]])

    def test_second_begin_takes_away_the_rules(self):
        told = ask(begin(5), rule(1, (0, 5)), rule(2, (0, 5)), begin(5), decide(3), drop(0), rule(9, (0, 5)))
        self.assertEqual(told, [[0], [0], [1], [0], [0], [-2], [0]])

    def test_second_begin_gives_other_inputs(self):
        told = ask(begin(5), begin(2, 3), decide(2), decide(2, 3), decide(3, 3), rule(4, (0, 2), (0, 3)), decide(2, 3))
        self.assertEqual(told, [[0], [0], [-22], [0], [-22], [0], [1, 4, 0]])

    def test_second_begin_makes_room_for_ten_rules(self):
        ten = [rule(1, (0, 5))] * 10
        told = ask(begin(5), *ten, begin(5), *ten)
        self.assertEqual(told[11:], [[0]] + [[k] for k in range(10)])

    def test_refused_begin_changes_nothing(self):
        for refused in (begin(), begin(1, 2, 3, 4, 5), begin(*range(10))):
            with self.subTest(refused=refused):
                told = ask(begin(5), rule(8, (2, 5)), refused, decide(5), decide(6), decide(1), rule(9, (0, 1)))
                self.assertEqual(told, [[0], [0], [-22], [1, 8, 0], [-22], [0], [1]])

    def test_refused_begins_before_the_first_good_one(self):
        told = ask(begin(), begin(1, 2, 3, 4, 5), begin(*range(10)), begin(4), rule(3, (0, 4)), decide(4))
        self.assertEqual(told, [[-22], [-22], [-22], [0], [0], [1, 3, 0]])


if __name__ == "__main__":
    unittest.main()
