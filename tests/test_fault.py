"""Point 6: the call fault."""

import random
import time
import unittest

from lines import (
    GREATEST_INT, LEAST_INT, Words, add, ask, count, drop, fault, forced, solve, some_parts, variables,
)


def last(*calls):
    return ask(*calls)[-1]


class Refused(unittest.TestCase):
    def test_more_than_32(self):
        for n in (2, 10, 11, 64):
            for many in (33, 34, 40):
                with self.subTest(n=n, many=many):
                    self.assertEqual(last(variables(n), fault(*[2] * many)), [-1])
                    self.assertEqual(last(variables(n), fault(*[2, -2] * (many // 2), *[2] * (many % 2))), [-1])

    def test_33_and_40_different_assumptions(self):
        for many in (33, 40):
            self.assertEqual(last(variables(64), fault(*range(1, many + 1))), [-1])

    def test_32_are_not_refused(self):
        # More than the 6 that are asked; refused they are not all the same.
        self.assertEqual(last(variables(2), fault(*[2] * 32)), [1])
        self.assertEqual(last(variables(2), fault(*[2] * 31, -2)), [0, 2 ** 31 + 1])
        self.assertEqual(last(variables(2), add(-2), fault(*[1] * 31, 2)), [0, 2 ** 31])

    def test_the_assumption_0(self):
        for n in (1, 10, 11, 64):
            for assumed in ([0], [1, 0], [0, 1], [1, 0, -1], [0, 0]):
                with self.subTest(n=n, assumed=assumed):
                    self.assertEqual(last(variables(n), fault(*assumed)), [-1])

    def test_of_a_variable_that_there_is_not(self):
        for n in (1, 3, 10, 11, 63, 64):
            for part in (n + 1, -n - 1, 65, -65, GREATEST_INT, -GREATEST_INT, LEAST_INT):
                with self.subTest(n=n, part=part):
                    self.assertEqual(last(variables(n), fault(part)), [-1])
                    self.assertEqual(last(variables(n), fault(1, part)), [-1])
                    self.assertEqual(last(variables(n), fault(part, 1)), [-1])

    def test_of_the_last_variable_is_not_refused(self):
        for n in (1, 3, 10):
            with self.subTest(n=n):
                self.assertEqual(last(variables(n), fault(n)), [1])
                self.assertEqual(last(variables(n), fault(-n)), [1])

    def test_with_no_variables(self):
        for part in (1, -1, 0, LEAST_INT, GREATEST_INT):
            with self.subTest(part=part):
                self.assertEqual(ask(fault(part), add(), fault(part)), [[-1], [0], [-1]])

    def test_before_all_else(self):
        line = [variables(2), add(), fault(3), fault(0), fault(*[1] * 33), fault(-3, 1)]
        self.assertEqual(ask(*line), [[0], [0], [-1], [-1], [-1], [-1]])
        self.assertEqual(ask(variables(2), fault(1, -1, 3), fault(1, -1, 0)), [[0], [-1], [-1]])
        self.assertEqual(last(variables(2), add(-1), fault(1, 3)), [-1])

    def test_a_refusal_changes_nothing(self):
        line = [variables(2), add(1, 2), fault(3), fault(0), fault(*[-1] * 33), fault(-1, -2), count(9), drop(), drop()]
        self.assertEqual(ask(*line), [[0], [0], [-1], [-1], [-1], [0, 3], [3], [0], [-1]])

    def test_as_solve_is(self):
        source = random.Random(6)
        for each in range(200):
            n = source.randint(1, 10)
            assumed = [source.randint(-n - 1, n + 1) for part in range(source.choice((1, 2, 3, 6, 33, 40)))]
            with self.subTest(n=n, assumed=assumed):
                answered = ask(variables(n), solve(*assumed), fault(*assumed))
                self.assertEqual(answered[1] == [-1], answered[2] == [-1])


class NoAssumptions(unittest.TestCase):
    def test_a_way_fits(self):
        self.assertEqual(ask(fault()), [[1]])
        self.assertEqual(last(variables(3), fault()), [1])
        self.assertEqual(last(variables(3), add(1, 2), fault()), [1])

    def test_no_way_fits(self):
        self.assertEqual(ask(add(), fault()), [[0], [0, 0]])
        self.assertEqual(last(variables(3), add(), fault()), [0, 0])
        self.assertEqual(last(variables(1), add(1), add(-1), fault()), [0, 0])


class AtFault(unittest.TestCase):
    def test_none_where_all_hold(self):
        self.assertEqual(last(variables(3), fault(1, -2, 3)), [1])
        self.assertEqual(last(variables(3), add(1, 2), add(-3), fault(2, -3, -1)), [1])

    def test_the_clauses_alone_let_no_way_fit(self):
        for assumed in ([1], [-1], [1, -1], [1, 2, 3, -1, -2, -3]):
            with self.subTest(assumed=assumed):
                self.assertEqual(last(variables(3), add(), fault(*assumed)), [0, 0])
                self.assertEqual(last(variables(3), add(2), add(-2), fault(*assumed)), [0, 0])

    def test_an_assumption_twice(self):
        self.assertEqual(last(variables(2), fault(2, 2)), [1])
        self.assertEqual(last(variables(2), add(-2), fault(2, 2)), [0, 1])
        self.assertEqual(last(variables(2), add(-2), fault(1, 2, 2)), [0, 2])
        self.assertEqual(last(variables(2), add(-1, -2), fault(1, 1, 2, 2)), [0, 5])

    def test_against_one_another(self):
        self.assertEqual(last(variables(2), fault(1, -1)), [0, 3])
        self.assertEqual(last(variables(2), fault(-1, 2, 1)), [0, 5])
        self.assertEqual(last(variables(2), fault(-2, 1, 2, -1)), [0, 5])
        self.assertEqual(last(variables(2), fault(2, 1, -1, -2)), [0, 6])

    def test_one_alone(self):
        for place in range(6):
            assumed = [1, 2, 3, 4, 5, 6]
            with self.subTest(place=place):
                self.assertEqual(last(variables(6), add(-assumed[place]), fault(*assumed)), [0, 2 ** place])

    def test_one_alone_that_is_assumed_false(self):
        self.assertEqual(last(variables(3), add(2), fault(1, -2, 3)), [0, 2])

    def test_two(self):
        for first in range(6):
            for second in range(first + 1, 6):
                with self.subTest(first=first, second=second):
                    line = [variables(6), add(-(first + 1), -(second + 1)), fault(1, 2, 3, 4, 5, 6)]
                    self.assertEqual(last(*line), [0, 2 ** first + 2 ** second])

    def test_two_through_several_clauses(self):
        self.assertEqual(last(variables(4), add(-1, 2), add(-2, 3), add(-3, 4), fault(3, 1, -4)), [0, 5])
        self.assertEqual(last(variables(4), add(-1, 2), add(-2, 3), add(-3, 4), fault(1, 2, -4)), [0, 5])
        self.assertEqual(last(variables(4), add(-1, 2), add(-2, 3), add(-3, 4), fault(2, 1, -4)), [0, 5])

    def test_six(self):
        self.assertEqual(last(variables(6), add(-1, -2, -3, -4, -5, -6), fault(1, 2, 3, 4, 5, 6)), [0, 63])
        self.assertEqual(last(variables(10), add(1, -2, 3, -4, 5, 10), fault(-1, 2, -3, 4, -5, -10)), [0, 63])

    def test_an_assumption_is_named_by_its_place(self):
        self.assertEqual(last(variables(10), add(-10, -1), fault(10, 5, 1)), [0, 5])
        self.assertEqual(last(variables(10), add(-10, -1), fault(5, 1, 10)), [0, 6])


class SeveralSets(unittest.TestCase):
    def test_of_one_size(self):
        self.assertEqual(last(variables(3), add(-1), add(-2), add(-3), fault(3, 2, 1)), [0, 1])
        self.assertEqual(last(variables(3), add(-2), add(-3), fault(1, 2, 3)), [0, 2])
        self.assertEqual(last(variables(4), add(-1, -4), add(-2, -3), fault(1, 2, 3, 4)), [0, 6])
        self.assertEqual(last(variables(4), add(-1, -3), add(-2, -3), fault(1, 2, 3, 4)), [0, 5])

    def test_the_least_names_more_than_another(self):
        self.assertEqual(last(variables(3), add(-1, -2), add(-3), fault(1, 2, 3)), [0, 3])
        self.assertEqual(last(variables(4), add(-1, -2, -3), add(-4), fault(1, 2, 3, 4)), [0, 7])
        self.assertEqual(last(variables(6), add(-1, -2, -3, -4, -5), add(-6), fault(1, 2, 3, 4, 5, 6)), [0, 31])
        self.assertEqual(last(variables(6), add(-2, -3, -4), add(-1, -5), fault(1, 2, 3, 4, 5, 6)), [0, 14])

    def test_the_least_names_fewer_than_another(self):
        self.assertEqual(last(variables(4), add(-2, -3, -4), add(-1), fault(1, 2, 3, 4)), [0, 1])
        self.assertEqual(last(variables(4), add(-1, -3, -4), add(-2, -4), fault(1, 2, 3, 4)), [0, 10])

    def test_none_named_is_too_many(self):
        # 1 and 2 can't hold together, and 2 can't hold at all: 2 alone is at fault.
        self.assertEqual(last(variables(2), add(-1, -2), add(-2), fault(1, 2)), [0, 2])


class Many(unittest.TestCase):
    def test_against_the_words(self):
        source = random.Random(20261117)
        seen = {}
        for each in range(400):
            n = source.randint(1, 5)
            clauses = [some_parts(source, n, 4) or [n] for clause in range(source.randint(0, 6))]
            assumed = [some_parts(source, n, 6) for call in range(3)]
            line = [variables(n)] + [add(*parts) for parts in clauses] + [fault(*parts) for parts in assumed]
            wanted = [Words(n, clauses).fault(parts) for parts in assumed]
            with self.subTest(line=line):
                self.assertEqual(ask(*line)[-3:], wanted)
            for answer in wanted:
                seen[tuple(answer)] = True
        self.assertGreater(len(seen), 20)

    def test_10_variables_and_many_clauses_in_good_time(self):
        # Every clause but the last holds everywhere, so each way is held against nearly all of them.
        clauses = [[i % 10 + 1] * 15 + [-(i % 10 + 1)] for i in range(28)] + [[-1, -2, -3, -4, -5, -6]]
        line = [variables(10)] + [add(*parts) for parts in clauses]
        line = line + [fault(1, 2, 3, 4, 5, 6)] * 15 + [fault(1, 2, 3, 4, 5, 10)] * 15
        self.assertEqual(len(line), 60)
        start = time.monotonic()
        answered = ask(*line)
        self.assertLess(time.monotonic() - start, 5)
        self.assertEqual(answered[30:], [[0, 63]] * 15 + [[1]] * 15)

    def test_fault_changes_nothing(self):
        calls = [add(1, 2), solve(), add(-2), solve(2), count(9), forced(), drop(), add(-1, -2), count(9), drop()]
        plain = ask(variables(2), *calls)
        among = [variables(2)]
        for call in calls:
            among = among + [fault(1, 2), fault(-1, -2), fault(3), call]
        self.assertEqual(ask(*among)[::4], plain)


if __name__ == "__main__":
    unittest.main()
