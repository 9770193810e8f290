"""One set of variables and clauses, and the calls that are made on it."""

MOST_VARIABLES = 64
MOST_CLAUSES = 1024
MOST_PARTS = 16
MOST_ASSUMED = 32

REFUSED = -1

VARIABLES = 1
ADD = 2
DROP = 3
SOLVE = 4


class UnknownCall(ValueError):
    """A call's number is none that there is."""


class Parts:
    """The parts of one clause, or of assumptions, as bits laid like those of a way."""

    def __init__(self, parts):
        # As bits, sixteen parts are asked as quickly as one, and a part told twice is as if told once.
        self.true_bits = 0
        self.false_bits = 0
        for part in parts:
            if part > 0:
                self.true_bits = self.true_bits | (1 << (part - 1))
            else:
                self.false_bits = self.false_bits | (1 << (-part - 1))

    def one_holds(self, way):
        return (way & self.true_bits) != 0 or (way & self.false_bits) != self.false_bits

    def all_hold(self, way):
        return (way & self.true_bits) == self.true_bits and (way & self.false_bits) == 0


class ClauseSet:
    """Variables and clauses, at first none; each call gives back the list of numbers that it answers."""

    def __init__(self):
        self.variable_count = 0
        self.clauses = []

    def variables(self, n):
        # Clauses keep to variables that there are, so the variables stand still while a clause does.
        if n < 1 or n > MOST_VARIABLES or len(self.clauses) > 0:
            return [REFUSED]
        self.variable_count = n
        return [0]

    def add(self, parts):
        if len(parts) > MOST_PARTS or len(self.clauses) >= MOST_CLAUSES or not self.knows_all(parts):
            return [REFUSED]
        self.clauses.append(Parts(parts))
        return [len(self.clauses) - 1]

    def drop(self):
        if len(self.clauses) == 0:
            return [REFUSED]
        self.clauses.pop()
        return [len(self.clauses)]

    def solve(self, assumed):
        if len(assumed) > MOST_ASSUMED or not self.knows_all(assumed):
            return [REFUSED]
        assumptions = Parts(assumed)
        # Ways are walked upwards, so the first that is found is the least.
        for way in range(1 << self.variable_count):
            if assumptions.all_hold(way) and self.fits(way):
                return [1, way]
        return [0]

    def knows_all(self, parts):
        for part in parts:
            if part == 0 or abs(part) > self.variable_count:
                return False
        return True

    def fits(self, way):
        for clause in self.clauses:
            if not clause.one_holds(way):
                return False
        return True


def call_length(calls, start):
    """How many numbers the call that begins at start takes up in calls."""
    number = calls[start]
    if number == VARIABLES:
        return 2
    if number == DROP:
        return 1
    if number == ADD or number == SOLVE:
        return 2 + calls[start + 1]
    raise UnknownCall(f"no call has the number {number}")


def answer_call(clause_set, call):
    """The numbers that one call answers; call is its number and what is handed to it."""
    number = call[0]
    if number == VARIABLES:
        return clause_set.variables(call[1])
    if number == ADD:
        return clause_set.add(call[2:])
    if number == DROP:
        return clause_set.drop()
    return clause_set.solve(call[2:])


def answers(calls):
    """For each call of the list calls, in order: how many numbers it answers, then these."""
    clause_set = ClauseSet()
    answered = []
    start = 0
    while start < len(calls):
        end = start + call_length(calls, start)
        answer = answer_call(clause_set, calls[start:end])
        answered.append(len(answer))
        answered.extend(answer)
        start = end
    return answered
