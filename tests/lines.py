"""What the tests share: how calls are laid in a list, and how answers are taken out of one."""

from clausehall.clauses import answers

LEAST_INT = -2147483648
GREATEST_INT = 2147483647


def variables(n):
    return [1, n]


def add(*parts):
    return [2, len(parts)] + list(parts)


def drop():
    return [3]


def solve(*assumed):
    return [4, len(assumed)] + list(assumed)


def laid(calls):
    """The calls, one behind another in one list."""
    return [number for call in calls for number in call]


def split(answered):
    """The answers, one list a call; fails where a length before one is wrong."""
    rows = []
    place = 0
    while place < len(answered):
        end = place + 1 + answered[place]
        if answered[place] < 1 or end > len(answered):
            raise AssertionError(f"a wrong length at {place} of {answered}")
        rows.append(answered[place + 1:end])
        place = end
    return rows


def ask(*calls):
    """What the calls of one line answer, one list a call."""
    return split(answers(laid(calls)))
