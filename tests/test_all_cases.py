"""What holds: all that is told is so of all cases, and the case that is told is the earliest that shows it.

Small tables are held against a walk over all cases, the greatest ones against all cases cut into pieces.
"""

import itertools
import random
import unittest

from tests.calls import HIGHEST, ask, begin, clash, differ, drop, gap, keep, move, needless, rule
from tests.pieces import pieced_clash, pieced_differ, pieced_gap, pieced_needless
from tests.walk import (WalkedTable, some_rules, walked_clash, walked_differ, walked_gap, walked_needless, written)


def kept_then_ruled(tops, kept, rules):
    """The calls that keep the ones and leave the others as the rules."""
    return [begin(*tops), *written(kept), keep(), *[drop(0)] * len(kept), *written(rules)]


def five_questions(rules):
    return [gap(), clash(), differ(), *[needless(k) for k in range(len(rules))]]


def asked(tops, kept, rules):
    """What the program answers to the five questions."""
    questions = five_questions(rules)
    return ask(*kept_then_ruled(tops, kept, rules), *questions)[-len(questions):]


def walked(tops, kept, rules):
    return [walked_gap(tops, rules), walked_clash(tops, rules), walked_differ(tops, rules, kept),
            *[walked_needless(tops, rules, k) for k in range(len(rules))]]


def pieced(tops, kept, rules):
    return [pieced_gap(tops, rules), pieced_clash(rules), pieced_differ(tops, rules, kept),
            *[pieced_needless(tops, rules, k) for k in range(len(rules))]]


def rule_lists(tops, most, outcomes):
    """All lists of at most so many rules."""
    bounds = [itertools.combinations_with_replacement(range(top + 1), 2) for top in tops]
    single = list(itertools.product(range(outcomes), itertools.product(*bounds)))
    return [list(rules) for count in range(most + 1) for rules in itertools.product(single, repeat=count)]


class SmallTablesTest(unittest.TestCase):
    def check(self, tops, kept, rules):
        self.assertEqual(asked(tops, kept, rules), walked(tops, kept, rules), (tops, kept, rules))

    def test_every_table_of_three_rules_over_three_numbers(self):
        for rules in rule_lists((2,), 3, 2):
            self.check((2,), [], rules)

    def test_every_pair_of_tables_of_two_rules_over_two_numbers(self):
        lists = rule_lists((1,), 2, 2)
        for kept, rules in itertools.product(lists, lists):
            self.check((1,), kept, rules)

    def test_every_table_of_two_rules_over_two_inputs(self):
        for rules in rule_lists((1, 1), 2, 2):
            self.check((1, 1), rules[:1], rules)

    def test_many_tables_of_one_to_four_inputs(self):
        source = random.Random(1)
        shapes = ((9,), (4,), (0,), (5, 5), (0, 6), (2, 7), (3, 3, 3), (4, 0, 2), (2, 2, 2, 2), (1, 0, 3, 1))
        for tops in shapes:
            for turn in range(60):
                kept = some_rules(source, tops, source.randrange(11), 1 + turn % 3)
                rules = some_rules(source, tops, source.randrange(11), 1 + turn % 3)
                self.check(tops, kept, rules)

    def test_many_tables_with_few_changes_since_keep(self):
        source = random.Random(2)
        told = {}
        for tops in ((9,), (5, 5), (3, 3, 3), (2, 2, 2, 2)):
            for turn in range(60):
                kept = some_rules(source, tops, 2 + source.randrange(9), 2)
                rules = list(kept)
                rules.insert(source.randrange(len(rules)), rules.pop(source.randrange(len(rules))))
                if turn % 2 == 0:
                    rules.pop(source.randrange(len(rules)))
                self.check(tops, kept, rules)
                told[walked_differ(tops, rules, kept)[0]] = True
        self.assertEqual(sorted(told), [0, 1])

    def test_long_lists_of_all_ten_calls(self):
        source = random.Random(3)
        for tops in ((9,), (4, 4), (2, 3, 2), (2, 1, 2, 1)):
            for turn in range(4):
                calls = [begin(*tops)] + [some_call(source, tops) for number in range(299)]
                table = WalkedTable()
                self.assertEqual(ask(*calls), [table.answer(call) for call in calls])


def some_call(source, tops):
    """One of the ten calls; now and then one that is refused."""
    kind = source.randrange(16)
    if kind == 0:
        return source.choice((begin(), begin(*[1] * 5), begin(*tops)))
    if kind < 5:
        outcome, bounds = some_rules(source, tops, 1, 3)[0]
        if source.randrange(8) == 0:
            bounds = source.choice((bounds[1:], [(top, top + 1) for top in tops], bounds + [(0, 0)]))
        return rule(outcome, *bounds)
    if kind == 5:
        return drop(source.randrange(8))
    if kind < 8:
        return move(source.randrange(6), source.randrange(6))
    if kind == 8:
        return [4, len(tops), *[source.randint(0, top + 1) for top in tops]]
    if kind < 13:
        return source.choice((gap(), clash(), needless(source.randrange(6))))
    return source.choice((keep(), differ(), differ()))


def all_different(source, count):
    """As many bounds from 1 to HIGHEST - 1, of which no two numbers are the same or beside one another."""
    numbers = source.sample(range(1, HIGHEST // 2), 2 * count)
    numbers = [2 * number for number in numbers]
    return [tuple(sorted(numbers[2 * k:2 * k + 2])) for k in range(count)]


def wide(source, count):
    """Bounds that all share a number, each with ends of its own."""
    lows = source.sample(range(1, HIGHEST // 2, 2), count)
    highs = source.sample(range(HIGHEST // 2, HIGHEST, 2), count)
    return list(zip(lows, highs))


def great_rules(source, bounds_of, count, outcomes):
    """Rules over four inputs, each with bounds of its own at every input."""
    by_input = [bounds_of(source, count) for at in range(4)]
    return [(source.randrange(outcomes), [by_input[at][k] for at in range(4)]) for k in range(count)]


class GreatestTablesTest(unittest.TestCase):
    tops = (HIGHEST,) * 4
    over_all = [(0, HIGHEST)] * 4

    def check(self, kept, rules):
        found = asked(self.tops, kept, rules)
        self.assertEqual(found, pieced(self.tops, kept, rules), (kept, rules))
        return found

    def test_pieces_tell_the_same_as_a_walk(self):
        source = random.Random(5)
        for tops in ((7,), (4, 4), (2, 3, 2), (2, 1, 2, 1)):
            for turn in range(20):
                kept = some_rules(source, tops, source.randrange(8), 2)
                rules = some_rules(source, tops, source.randrange(8), 2)
                self.assertEqual(pieced(tops, kept, rules), walked(tops, kept, rules))

    def test_ten_rules_and_ten_kept_with_all_bounds_different(self):
        source = random.Random(6)
        for bounds_of in (all_different, wide):
            for turn in range(3):
                both = great_rules(source, bounds_of, 20, 3)
                self.check(both[:10], both[10:])

    def test_gap_filled_by_a_last_rule_over_all_cases(self):
        source = random.Random(7)
        for bounds_of in (all_different, wide):
            rules = great_rules(source, bounds_of, 9, 2) + [(1, self.over_all)]
            found = self.check(rules[:5] + rules[6:], rules)
            self.assertEqual(found[0], [0])

    def test_no_difference_among_ten_and_ten_that_decide_the_same(self):
        source = random.Random(8)
        for bounds_of in (all_different, wide):
            both = [(1, bounds) for outcome, bounds in great_rules(source, bounds_of, 18, 1)]
            kept, rules = both[:9] + [(1, self.over_all)], both[9:] + [(1, self.over_all)]
            found = self.check(kept, rules)
            self.assertEqual(found[:3], [[0], [0], [0]])
            self.assertEqual(found[3:12], [[1]] * 9)

    def test_difference_in_one_case_alone(self):
        source = random.Random(9)
        case = [number + 1 for number, high in all_different(source, 4)]
        single = (2, [(number, number) for number in case])
        both = [(1, bounds) for outcome, bounds in great_rules(source, wide, 17, 1)]
        kept = both[:9] + [(1, self.over_all)]
        rules = [single] + both[9:] + [(1, self.over_all)]
        self.assertEqual(asked(self.tops, kept, rules)[2:4], [[1, 3, 2] + case, [0] + case])
        self.assertEqual(asked(self.tops, rules, kept)[2], [1, 2, 3] + case)

    def test_last_case_of_all_alone(self):
        source = random.Random(10)
        rules = [(1, [(0, HIGHEST)] * at + [(0, HIGHEST - 1)] + [(0, HIGHEST)] * (3 - at)) for at in range(4)]
        rules = great_rules(source, wide, 6, 2) + rules
        top = list(self.tops)
        found = asked(self.tops, rules[:9] + [(1, self.over_all)], rules)
        self.assertEqual(found[0], [1] + top)
        self.assertEqual(found[2], [1, 0, 2] + top)

    def test_three_hundred_calls_on_the_greatest_tables(self):
        source = random.Random(11)
        both = [(1, bounds) for outcome, bounds in great_rules(source, wide, 18, 1)]
        kept, rules = both[:9] + [(1, self.over_all)], both[9:] + [(1, self.over_all)]
        calls = kept_then_ruled(self.tops, kept, rules)
        while len(calls) < 300:
            calls.extend([differ(), gap(), needless(len(calls) % 9), move(len(calls) % 9, 0)])
        told = ask(*calls[:300])[32:]
        self.assertEqual(told, ([[0], [0], [1], [0]] * 67)[:len(told)])


if __name__ == "__main__":
    unittest.main()
