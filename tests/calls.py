"""Writes calls as the interface asks for them, and takes the answers apart again."""

from decidetable.rules import answers

HIGHEST = 4294967295


def begin(*tops):
    return [0, len(tops), *tops]


def rule(outcome, *bounds):
    numbers = [number for bound in bounds for number in bound]
    return [1, outcome, len(numbers), *numbers]


def drop(k):
    return [2, k]


def move(k, to):
    return [3, k, to]


def decide(*case):
    return [4, len(case), *case]


def gap():
    return [5]


def clash():
    return [6]


def needless(k):
    return [7, k]


def keep():
    return [8]


def differ():
    return [9]


def joined(calls):
    return [number for call in calls for number in call]


def taken_apart(told):
    parts = []
    at = 0
    while at < len(told):
        end = at + 1 + told[at]
        if told[at] < 1 or end > len(told):
            raise AssertionError(f"a count that does not fit at {at}: {told}")
        parts.append(told[at + 1:end])
        at = end
    return parts


def ask(*calls):
    """The answers to the calls on one new object, a list each."""
    parts = taken_apart(answers(joined(calls)))
    if len(parts) != len(calls):
        raise AssertionError(f"{len(calls)} calls, {len(parts)} answers")
    return parts


def last(*calls):
    return ask(*calls)[-1]
