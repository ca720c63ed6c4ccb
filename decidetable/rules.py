"""Tables that decide: rules over bounded whole numbers, asked by one list of calls."""

BEGIN = 0
RULE = 1
DROP = 2
MOVE = 3
DECIDE = 4
GAP = 5
CLASH = 6
NEEDLESS = 7
KEEP = 8

# By a call's number: how many whole numbers stand behind it, and whether a row follows these.
SINGLE_NUMBERS = (0, 1, 1, 2, 0, 0, 0, 1, 0, 0)
ENDS_IN_ROW = (True, True, False, False, True, False, False, False, False, False)

NO_SUCH_RULE = -2
NOT_ALLOWED = -22
NO_ROOM = -28

MOST_INPUTS = 4
MOST_RULES = 10
TOP_OUTCOME = 255


class Rule:
    """An outcome, and for each input the least and the greatest number of its bound."""

    def __init__(self, outcome, lows, highs):
        self.outcome = outcome
        self.lows = lows
        self.highs = highs

    def holds(self, case):
        return all([low <= number <= high for low, number, high in zip(self.lows, case, self.highs)])


class Search:
    """A search for the earliest case in which two lists of rules decide otherwise.

    The rules of both lists are numbered on, the second list's behind the first's. A whole number tells which
    of them hold: its bit k is 1 if rule k does.
    """

    def __init__(self, tops, first, second):
        self.first = first
        self.second = second
        self.steps = [input_steps(first + second, at, top) for at, top in enumerate(tops)]
        self.seen = [{} for top in tops]

    def earliest(self):
        every_rule = (1 << (len(self.first) + len(self.second))) - 1
        return self.earliest_rest(0, every_rule)

    def earliest_rest(self, at, held):
        """The earliest numbers for the inputs from at on, where the rules in held hold so far; or None."""
        if at == len(self.steps):
            return [] if self.decide_otherwise(held) else None
        seen = self.seen[at]
        for number, holding in self.steps[at]:
            still_held = held & holding
            # Which rules still hold is all that the rest depends on: where the same ones did before,
            # nothing was found, or the search would have ended there.
            if still_held not in seen:
                seen[still_held] = True
                rest = self.earliest_rest(at + 1, still_held)
                if rest is not None:
                    return [number] + rest
        return None

    def decide_otherwise(self, held):
        return first_outcome(self.first, held) != first_outcome(self.second, held >> len(self.first))


class Table:
    """The inputs' tops, the rules in their order and the kept ones; each call answers a list of whole numbers."""

    def __init__(self):
        self.tops = []
        self.rules = []
        self.kept = []

    def begin(self, tops):
        if not 1 <= len(tops) <= MOST_INPUTS:
            return [NOT_ALLOWED]
        self.tops = tops
        self.rules = []
        self.kept = []
        return [0]

    def rule(self, outcome, bounds):
        lows = [bounds[at] for at in range(0, len(bounds), 2)]
        highs = [bounds[at] for at in range(1, len(bounds), 2)]
        # A rule that is not allowed is told so even where there is no room for it.
        if outcome > TOP_OUTCOME or not bounds_fit(lows, highs, self.tops):
            return [NOT_ALLOWED]
        if len(self.rules) == MOST_RULES:
            return [NO_ROOM]
        self.rules.append(Rule(outcome, lows, highs))
        return [len(self.rules) - 1]

    def drop(self, k):
        if k >= len(self.rules):
            return [NO_SUCH_RULE]
        self.rules.pop(k)
        return [len(self.rules)]

    def move(self, k, to):
        if k >= len(self.rules):
            return [NO_SUCH_RULE]
        if to >= len(self.rules):
            return [NOT_ALLOWED]
        taken = self.rules.pop(k)
        self.rules.insert(to, taken)
        return [0]

    def decide(self, case):
        if not case_fits(case, self.tops):
            return [NOT_ALLOWED]
        k = first_that_holds(self.rules, case)
        if k is None:
            return [0]
        return [1, self.rules[k].outcome, k]

    def gap(self):
        # One more rule behind all others, over all cases, decides just in the gaps, whatever its outcome.
        over_all = Rule(0, [0 for top in self.tops], self.tops)
        case = Search(self.tops, self.rules, self.rules + [over_all]).earliest()
        if case is None:
            return [0]
        return [1] + case

    def clash(self):
        for k, rule in enumerate(self.rules):
            for later in range(k + 1, len(self.rules)):
                case = earliest_clash(rule, self.rules[later])
                if case is not None:
                    return [1, k, later] + case
        return [0]

    def needless(self, k):
        if k >= len(self.rules):
            return [NO_SUCH_RULE]
        case = Search(self.tops, self.rules, self.rules[:k] + self.rules[k + 1:]).earliest()
        if case is None:
            return [1]
        return [0] + case

    def keep(self):
        # A copy of the list is enough: a rule is never changed once it is made.
        self.kept = list(self.rules)
        return [len(self.kept)]

    def differ(self):
        case = Search(self.tops, self.rules, self.kept).earliest()
        if case is None:
            return [0]
        return [1, told_outcome(self.rules, case), told_outcome(self.kept, case)] + case


def bounds_fit(lows, highs, tops):
    if len(lows) != len(tops):
        return False
    return all([low <= high <= top for low, high, top in zip(lows, highs, tops)])


def case_fits(case, tops):
    if len(case) != len(tops):
        return False
    return all([number <= top for number, top in zip(case, tops)])


def first_that_holds(rules, case):
    for k, rule in enumerate(rules):
        if rule.holds(case):
            return k
    return None


def told_outcome(rules, case):
    k = first_that_holds(rules, case)
    return 0 if k is None else rules[k].outcome + 1


def first_outcome(rules, held):
    """The outcome of the first rule whose bit is 1 in held; None if there is none."""
    for k, rule in enumerate(rules):
        if (held >> k) & 1:
            return rule.outcome
    return None


def input_steps(rules, at, top):
    """The numbers of an input at which other rules may hold than before, each with the rules that hold there.

    From one such number up to the next the same rules hold, so an earliest case has no other numbers.
    """
    starts = [0] + [rule.lows[at] for rule in rules]
    ends = [rule.highs[at] + 1 for rule in rules if rule.highs[at] < top]
    return [(number, holding_at(rules, at, number)) for number in sorted(set(starts + ends))]


def holding_at(rules, at, number):
    return sum([1 << k for k, rule in enumerate(rules) if rule.lows[at] <= number <= rule.highs[at]])


def earliest_clash(rule, other):
    """The earliest case in which both hold, if their outcomes are not the same; else None."""
    if rule.outcome == other.outcome:
        return None
    lows = [max(low, other_low) for low, other_low in zip(rule.lows, other.lows)]
    if rule.holds(lows) and other.holds(lows):
        return lows
    return None


def call_end(calls, start):
    number = calls[start]
    end = start + 1 + SINGLE_NUMBERS[number]
    if ENDS_IN_ROW[number]:
        end = end + 1 + calls[end]
    return end


def answer_one(table, call):
    number = call[0]
    if number == BEGIN:
        return table.begin(call[2:])
    if number == RULE:
        return table.rule(call[1], call[3:])
    if number == DROP:
        return table.drop(call[1])
    if number == MOVE:
        return table.move(call[1], call[2])
    if number == DECIDE:
        return table.decide(call[2:])
    if number == GAP:
        return table.gap()
    if number == CLASH:
        return table.clash()
    if number == NEEDLESS:
        return table.needless(call[1])
    if number == KEEP:
        return table.keep()
    # call_end finds no end for any other number, so what is left is differ.
    return table.differ()


def answers(calls):
    """Answer the calls on one new table: for each, how many numbers are answered, then these."""
    table = Table()
    told = []
    start = 0
    while start < len(calls):
        end = call_end(calls, start)
        answer = answer_one(table, calls[start:end])
        told.append(len(answer))
        told.extend(answer)
        start = end
    return told
