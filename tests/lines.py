"""What the tests share: how calls and answers are laid in a list, and the answers by the words alone."""

from clausehall.clauses import answers

LEAST_INT = -2147483648
GREATEST_INT = 2147483647
GREATEST_MOST = 18446744073709551615


def variables(n):
    return [1, n]


def add(*parts):
    return [2, len(parts)] + list(parts)


def drop():
    return [3]


def solve(*assumed):
    return [4, len(assumed)] + list(assumed)


def fault(*assumed):
    return [5, len(assumed)] + list(assumed)


def count(most):
    return [6, most]


def forced():
    return [7]


def laid(calls):
    """The calls, one behind another in one list."""
    return [number for call in calls for number in call]


def split(answered):
    """The answers, one list a call; fails where a length before one is wrong."""
    rows = []
    place = 0
    while place < len(answered):
        end = place + 1 + answered[place]
        if answered[place] < 1 or end > len(answered):
            raise AssertionError(f"a wrong length at {place} of {answered}")
        rows.append(answered[place + 1:end])
        place = end
    return rows


def ask(*calls):
    """What the calls of one line answer, one list a call."""
    return split(answers(laid(calls)))


def part_holds(part, way):
    digits = format(way, "064b")[::-1]
    return (digits[abs(part) - 1] == "1") == (part > 0)


def some_parts(source, n, most):
    return [source.choice((1, -1)) * source.randint(1, n) for each in range(source.randint(0, most))]


class Words:
    """Variables and clauses, and what the calls on them answer by the document's words alone, part by part."""

    def __init__(self, n, clauses):
        self.n = n
        self.clauses = clauses

    def fitting(self, assumed=()):
        """The ways that fit in which all assumptions hold, upwards."""
        return [
            way for way in range(2 ** self.n)
            if all(any(part_holds(part, way) for part in clause) for clause in self.clauses)
            and all(part_holds(part, way) for part in assumed)
        ]

    def solve(self, assumed):
        ways = self.fitting(assumed)
        return [1, ways[0]] if ways else [0]

    def fault(self, assumed):
        if self.fitting(assumed):
            return [1]
        for number in range(2 ** len(assumed)):
            places = [place for place in range(len(assumed)) if number // 2 ** place % 2 == 1]
            if self.at_fault(assumed, places):
                return [0, number]
        raise AssertionError("there is always a set at fault")

    def at_fault(self, assumed, places):
        if self.fitting([assumed[place] for place in places]):
            return False
        return all(
            self.fitting([assumed[place] for place in places if place != left_out]) for left_out in places
        )

    def count(self, most):
        number = len(self.fitting())
        return [most] if number > most else [number]

    def forced(self):
        ways = self.fitting()
        if not ways:
            return [-1]
        numbers = range(1, self.n + 1)
        true_in_all = [i for i in numbers if all(part_holds(i, way) for way in ways)]
        false_in_all = [i for i in numbers if all(part_holds(-i, way) for way in ways)]
        return [0, sum(2 ** (i - 1) for i in true_in_all), sum(2 ** (i - 1) for i in false_in_all)]
