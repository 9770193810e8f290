"""One set of variables and clauses, and the calls that are made on it."""

MOST_VARIABLES = 64
MOST_CLAUSES = 1024
MOST_PARTS = 16
MOST_ASSUMED = 32

REFUSED = -1

VARIABLES = 1
ADD = 2
DROP = 3
SOLVE = 4
FAULT = 5
COUNT = 6
FORCED = 7


class UnknownCall(ValueError):
    """A call's number is none that there is."""


class Parts:
    """The parts of one clause, or of assumptions, as bits laid like those of a way."""

    def __init__(self, parts):
        # As bits, sixteen parts are asked as quickly as one, and a part told twice is as if told once.
        self.true_bits = 0
        self.false_bits = 0
        for part in parts:
            if part > 0:
                self.true_bits = self.true_bits | (1 << (part - 1))
            else:
                self.false_bits = self.false_bits | (1 << (-part - 1))

    def one_holds(self, way):
        return (way & self.true_bits) != 0 or (way & self.false_bits) != self.false_bits

    def all_hold(self, way):
        return (way & self.true_bits) == self.true_bits and (way & self.false_bits) == 0


class ClauseSet:
    """Variables and clauses, at first none; each call gives back the list of numbers that it answers."""

    def __init__(self):
        self.variable_count = 0
        self.clauses = []

    def variables(self, n):
        # Clauses keep to variables that there are, so the variables stand still while a clause does.
        if n < 1 or n > MOST_VARIABLES or len(self.clauses) > 0:
            return [REFUSED]
        self.variable_count = n
        return [0]

    def add(self, parts):
        if len(parts) > MOST_PARTS or len(self.clauses) >= MOST_CLAUSES or not self.knows_all(parts):
            return [REFUSED]
        self.clauses.append(Parts(parts))
        return [len(self.clauses) - 1]

    def drop(self):
        if len(self.clauses) == 0:
            return [REFUSED]
        self.clauses.pop()
        return [len(self.clauses)]

    def solve(self, assumed):
        if not self.may_assume(assumed):
            return [REFUSED]
        assumptions = Parts(assumed)
        # Ways are walked upwards, so the first that is found is the least.
        for way in range(1 << self.variable_count):
            if assumptions.all_hold(way) and self.fits(way):
                return [1, way]
        return [0]

    def fault(self, assumed):
        if not self.may_assume(assumed):
            return [REFUSED]
        singles = [Parts([part]) for part in assumed]
        held_together = [held_bits(singles, way) for way in self.fitting_ways()]
        named = (1 << len(assumed)) - 1
        if can_hold(named, held_together):
            return [1]
        return [0, least_at_fault(named, held_together)]

    def count(self, most):
        return [min(most, len(self.fitting_ways()))]

    def forced(self):
        ways = self.fitting_ways()
        if len(ways) == 0:
            return [REFUSED]
        all_bits = (1 << self.variable_count) - 1
        always_true = all_bits
        once_true = 0
        for way in ways:
            always_true = always_true & way
            once_true = once_true | way
        return [0, always_true, all_bits - once_true]

    def may_assume(self, assumed):
        return len(assumed) <= MOST_ASSUMED and self.knows_all(assumed)

    def knows_all(self, parts):
        for part in parts:
            if part == 0 or abs(part) > self.variable_count:
                return False
        return True

    def fits(self, way):
        for clause in self.clauses:
            if not clause.one_holds(way):
                return False
        return True

    def fitting_ways(self):
        return [way for way in range(1 << self.variable_count) if self.fits(way)]


def held_bits(singles, way):
    """Those of singles that hold in way, the one at place i by bit i."""
    held = 0
    for place in range(len(singles)):
        if singles[place].all_hold(way):
            held = held | (1 << place)
    return held


def can_hold(named, held_together):
    """Whether all assumptions that named names are among those that one way lets hold together."""
    for held in held_together:
        if (held & named) == named:
            return True
    return False


def least_at_fault(named, held_together):
    """The least number that names assumptions of named that can't hold together; all of named can't."""
    # An assumption weighs more than all before it, so each is left out, the last one first, where the rest
    # still can't hold together. Of the least number none is too many: without it the number were less.
    least = named
    for place in range(named.bit_length() - 1, -1, -1):
        rest = least - (1 << place)
        if not can_hold(rest, held_together):
            least = rest
    return least


def call_length(calls, start):
    """How many numbers the call that begins at start takes up in calls."""
    number = calls[start]
    if number == VARIABLES or number == COUNT:
        return 2
    if number == DROP or number == FORCED:
        return 1
    if number == ADD or number == SOLVE or number == FAULT:
        return 2 + calls[start + 1]
    raise UnknownCall(f"no call has the number {number}")


def answer_call(clause_set, call):
    """The numbers that one call answers; call is its number and what is handed to it."""
    number = call[0]
    if number == VARIABLES:
        return clause_set.variables(call[1])
    if number == ADD:
        return clause_set.add(call[2:])
    if number == DROP:
        return clause_set.drop()
    if number == SOLVE:
        return clause_set.solve(call[2:])
    if number == FAULT:
        return clause_set.fault(call[2:])
    if number == COUNT:
        return clause_set.count(call[1])
    return clause_set.forced()


def answers(calls):
    """For each call of the list calls, in order: how many numbers it answers, then these."""
    clause_set = ClauseSet()
    answered = []
    start = 0
    while start < len(calls):
        end = start + call_length(calls, start)
        answer = answer_call(clause_set, calls[start:end])
        answered.append(len(answer))
        answered.extend(answer)
        start = end
    return answered
