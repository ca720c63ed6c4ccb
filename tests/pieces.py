"""The questions answered for tables too great for a walk, by cutting all cases into pieces.

A piece is a list of bounds, (from, to) for each input, as a rule's are; pieces never overlap. Rules are
written as in tests.walk.
"""


def common(piece, bounds):
    """What lies within both; None if nothing does."""
    both = [(max(low, other_low), min(high, other_high))
            for (low, high), (other_low, other_high) in zip(piece, bounds)]
    return both if all(low <= high for low, high in both) else None


def cut_away(piece, bounds):
    """The pieces of a piece that lie outside of bounds, which lie within it."""
    pieces = []
    left = list(piece)
    for at, (low, high) in enumerate(bounds):
        whole_low, whole_high = left[at]
        if whole_low < low:
            pieces.append(left[:at] + [(whole_low, low - 1)] + left[at + 1:])
        if high < whole_high:
            pieces.append(left[:at] + [(high + 1, whole_high)] + left[at + 1:])
        left[at] = (low, high)
    return pieces


def decided_pieces(piece, rules):
    """The piece cut into (what is decided, piece): one more than the outcome, or 0 for nothing."""
    found = []
    free = [piece]
    for outcome, bounds in rules:
        still_free = []
        for part in free:
            within = common(part, bounds)
            if within is None:
                still_free.append(part)
            else:
                found.append((outcome + 1, within))
                still_free.extend(cut_away(part, within))
        free = still_free
    return found + [(0, part) for part in free]


def first_case(piece):
    return [low for low, high in piece]


def whole(tops):
    return [(0, top) for top in tops]


def pieced_gap(tops, rules):
    gaps = [first_case(piece) for told, piece in decided_pieces(whole(tops), rules) if told == 0]
    return [1] + min(gaps) if gaps else [0]


def pieced_clash(rules):
    for one, (outcome, bounds) in enumerate(rules):
        for other in range(one + 1, len(rules)):
            within = common(bounds, rules[other][1])
            if outcome != rules[other][0] and within is not None:
                return [1, one, other] + first_case(within)
    return [0]


def differences(tops, rules, others):
    """For each piece in which the two decide otherwise: its first case, and what each of them decides."""
    return [(first_case(part), told, other_told)
            for told, piece in decided_pieces(whole(tops), rules)
            for other_told, part in decided_pieces(piece, others) if told != other_told]


def pieced_needless(tops, rules, k):
    found = differences(tops, rules, rules[:k] + rules[k + 1:])
    return [0] + min(found)[0] if found else [1]


def pieced_differ(tops, rules, kept):
    found = differences(tops, rules, kept)
    if not found:
        return [0]
    case, told, kept_told = min(found)
    return [1, told, kept_told] + case
