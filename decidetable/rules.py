"""Tables that decide: rules over bounded whole numbers, asked by one list of calls."""

BEGIN = 0
RULE = 1
DROP = 2
MOVE = 3

# By a call's number: how many whole numbers stand behind it, and whether a row follows these.
SINGLE_NUMBERS = (0, 1, 1, 2, 0)
ENDS_IN_ROW = (True, True, False, False, True)

NO_SUCH_RULE = -2
NOT_ALLOWED = -22
NO_ROOM = -28

MOST_INPUTS = 4
MOST_RULES = 10
TOP_OUTCOME = 255


class Rule:
    """An outcome, and for each input the least and the greatest number of its bound."""

    def __init__(self, outcome, lows, highs):
        self.outcome = outcome
        self.lows = lows
        self.highs = highs

    def holds(self, case):
        return all([low <= number <= high for low, number, high in zip(self.lows, case, self.highs)])


class Table:
    """The inputs' tops and the rules in their order; each call answers a list of whole numbers."""

    def __init__(self):
        self.tops = []
        self.rules = []

    def begin(self, tops):
        if not 1 <= len(tops) <= MOST_INPUTS:
            return [NOT_ALLOWED]
        self.tops = tops
        self.rules = []
        return [0]

    def rule(self, outcome, bounds):
        lows = [bounds[at] for at in range(0, len(bounds), 2)]
        highs = [bounds[at] for at in range(1, len(bounds), 2)]
        # A rule that is not allowed is told so even where there is no room for it.
        if outcome > TOP_OUTCOME or not bounds_fit(lows, highs, self.tops):
            return [NOT_ALLOWED]
        if len(self.rules) == MOST_RULES:
            return [NO_ROOM]
        self.rules.append(Rule(outcome, lows, highs))
        return [len(self.rules) - 1]

    def drop(self, k):
        if k >= len(self.rules):
            return [NO_SUCH_RULE]
        self.rules.pop(k)
        return [len(self.rules)]

    def move(self, k, to):
        if k >= len(self.rules):
            return [NO_SUCH_RULE]
        if to >= len(self.rules):
            return [NOT_ALLOWED]
        taken = self.rules.pop(k)
        self.rules.insert(to, taken)
        return [0]

    def decide(self, case):
        if not case_fits(case, self.tops):
            return [NOT_ALLOWED]
        k = first_that_holds(self.rules, case)
        if k is None:
            return [0]
        return [1, self.rules[k].outcome, k]


def bounds_fit(lows, highs, tops):
    if len(lows) != len(tops):
        return False
    return all([low <= high <= top for low, high, top in zip(lows, highs, tops)])


def case_fits(case, tops):
    if len(case) != len(tops):
        return False
    return all([number <= top for number, top in zip(case, tops)])


def first_that_holds(rules, case):
    for k, rule in enumerate(rules):
        if rule.holds(case):
            return k
    return None


def call_end(calls, start):
    number = calls[start]
    end = start + 1 + SINGLE_NUMBERS[number]
    if ENDS_IN_ROW[number]:
        end = end + 1 + calls[end]
    return end


def answer_one(table, call):
    number = call[0]
    if number == BEGIN:
        return table.begin(call[2:])
    if number == RULE:
        return table.rule(call[1], call[3:])
    if number == DROP:
        return table.drop(call[1])
    if number == MOVE:
        return table.move(call[1], call[2])
    # call_end finds no end for any other number, so what is left is decide.
    return table.decide(call[2:])


def answers(calls):
    """Answer the calls on one new table: for each, how many numbers are answered, then these."""
    table = Table()
    told = []
    start = 0
    while start < len(calls):
        end = call_end(calls, start)
        answer = answer_one(table, calls[start:end])
        told.append(len(answer))
        told.extend(answer)
        start = end
    return told
