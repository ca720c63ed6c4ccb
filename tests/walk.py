"""The table by the document's words alone: every question is answered by a walk over all cases, one by one.

Only for small tops. A rule is written as (outcome, bounds), a bound as (from, to).
"""

import itertools

from tests import calls


def holds(rule, case):
    return all(low <= number <= high for number, (low, high) in zip(case, rule[1]))


def decided(rules, case):
    """One more than the outcome that is decided, or 0 for nothing."""
    for rule in rules:
        if holds(rule, case):
            return rule[0] + 1
    return 0


def all_cases(tops):
    """All cases, the earliest first."""
    return itertools.product(*[range(top + 1) for top in tops])


def walked_gap(tops, rules):
    for case in all_cases(tops):
        if decided(rules, case) == 0:
            return [1, *case]
    return [0]


def walked_clash(tops, rules):
    for one, other in itertools.combinations(range(len(rules)), 2):
        if rules[one][0] != rules[other][0]:
            for case in all_cases(tops):
                if holds(rules[one], case) and holds(rules[other], case):
                    return [1, one, other, *case]
    return [0]


def walked_needless(tops, rules, k):
    if k >= len(rules):
        return [-2]
    others = [rule for number, rule in enumerate(rules) if number != k]
    for case in all_cases(tops):
        if decided(rules, case) != decided(others, case):
            return [0, *case]
    return [1]


def walked_differ(tops, rules, kept):
    for case in all_cases(tops):
        if decided(rules, case) != decided(kept, case):
            return [1, decided(rules, case), decided(kept, case), *case]
    return [0]


def written(rules):
    """The calls that make these rules."""
    return [calls.rule(outcome, *bounds) for outcome, bounds in rules]


def some_bound(source, top):
    low, high = sorted((source.randint(0, top), source.randint(0, top)))
    return (low, high)


def some_rules(source, tops, count, outcomes):
    """As many rules, drawn from a random source that the test has given a seed."""
    return [(source.randrange(outcomes), [some_bound(source, top) for top in tops]) for number in range(count)]


class WalkedTable:
    """Answers each call, written as the interface asks for it, with the list of numbers that is due."""

    def __init__(self):
        self.tops = []
        self.rules = []
        self.kept = []

    def answer(self, call):
        number, rest = call[0], call[1:]
        by_number = (self.begin, self.rule, self.drop, self.move, self.decide)
        if number < 5:
            return by_number[number](*rest)
        if number == 5:
            return walked_gap(self.tops, self.rules)
        if number == 6:
            return walked_clash(self.tops, self.rules)
        if number == 7:
            return walked_needless(self.tops, self.rules, *rest)
        if number == 8:
            self.kept = list(self.rules)
            return [len(self.kept)]
        return walked_differ(self.tops, self.rules, self.kept)

    def begin(self, count, *tops):
        if count not in (1, 2, 3, 4):
            return [-22]
        self.tops, self.rules, self.kept = tops, [], []
        return [0]

    def rule(self, outcome, count, *bounds):
        pairs = list(zip(bounds[0::2], bounds[1::2]))
        if outcome > 255 or count != 2 * len(self.tops):
            return [-22]
        if any(low > high or high > top for (low, high), top in zip(pairs, self.tops)):
            return [-22]
        if len(self.rules) == 10:
            return [-28]
        self.rules = self.rules + [(outcome, pairs)]
        return [len(self.rules) - 1]

    def drop(self, k):
        if k >= len(self.rules):
            return [-2]
        self.rules = self.rules[:k] + self.rules[k + 1:]
        return [len(self.rules)]

    def move(self, k, to):
        if k >= len(self.rules):
            return [-2]
        if to >= len(self.rules):
            return [-22]
        others = self.rules[:k] + self.rules[k + 1:]
        self.rules = others[:to] + [self.rules[k]] + others[to:]
        return [0]

    def decide(self, count, *case):
        if count != len(self.tops) or any(number > top for number, top in zip(case, self.tops)):
            return [-22]
        for number, rule in enumerate(self.rules):
            if holds(rule, case):
                return [1, rule[0], number]
        return [0]
